"""[10], [11], [12], [21]: how sums grow, which growth is greater, and how growths are written."""

import inspect
import unittest
from fractions import Fraction
from math import log

from outgrow.errors import Uneven
from outgrow.tables import greater_growth, growth, growth_text
from tests import oracle

NONE = [(0, [])]


def grown(sums, many, base):
    """[11] once more."""
    terms = sums[-1][1]
    if many == 0 or not terms:
        if many == 0 or all(not row for since, row in sums):
            return (2 ** terms[0][0][0], 2, terms[0][0][1]) if terms else None
        if oracle.total(sums, 0) == 0:
            return "Uneven"
        return turned(many, base, 0)
    p, q = terms[0][0]
    if many > base ** p:
        return turned(many, base, 0)
    return (2 ** p, 2, q) if many < base ** p else turned(many, base, q + 1)


def turned(times, base, figures):
    if base == 3 and times in (1, 3, 9):
        return ({1: 1, 3: 2, 9: 4}[times], 2, figures)
    return (times, base, figures)


class Growths(unittest.TestCase):
    def check(self, sums, wanted, **more):
        def ask(sums):
            try:
                return growth(sums, **more)
            except Uneven as error:
                self.assertEqual(error.name, "")
                return "Uneven"
        told = oracle.kept(self, [sums], ask)
        self.assertEqual(told, wanted, (sums, more))
        if isinstance(told, tuple):
            self.assertEqual([type(number) for number in told], [int] * 3)


class TestOfSums(Growths):
    def test_no_terms(self):
        self.check(NONE, None)
        self.check(NONE, None, many=0, base=3)
        self.check([(0, [((3, 0), (1, 1))]), (7, [])], None)

    def test_every_power(self):
        for p in range(10):
            for q in range(10):
                self.check(oracle.flat({(p, q): Fraction(-1, 2)}), (2 ** p, 2, q))

    def test_figures_beside_the_greatest_power(self):
        self.check(oracle.flat({(2, 1): 1, (2, 0): -9, (1, 9): 99, (0, 9): 1}), (4, 2, 1))
        self.check(oracle.flat({(2, 0): 1, (1, 9): 99}), (4, 2, 0))
        self.check(oracle.flat({(0, 5): 1, (0, 0): 1}), (1, 2, 5))

    def test_only_the_last_row(self):
        self.check(oracle.sums((0, {(9, 9): 1}), (5, {(1, 0): 1}), (6, {(0, 0): 1})), (1, 2, 0))

    def test_base_does_not_matter_where_many_is_nought(self):
        for base in (2, 3):
            self.check(oracle.flat({(3, 1): 1}), (8, 2, 1), many=0, base=base)


class TestOfPlansThatDoThemselvesAgain(Growths):
    def test_the_three_cases(self):
        line = oracle.flat({(1, 2): 1, (0, 9): 5})
        self.check(line, (2, 2, 2), many=1, base=2)
        self.check(line, (2, 2, 3), many=2, base=2)
        self.check(line, (3, 2, 0), many=3, base=2)
        self.check(line, (2, 2, 2), many=2, base=3)
        self.check(line, (2, 2, 3), many=3, base=3)
        self.check(line, (4, 3, 0), many=4, base=3)
        self.check(line, (4, 2, 0), many=9, base=3)

    def test_base_is_2_where_it_is_left_out(self):
        self.check(oracle.flat({(1, 0): 1}), (2, 2, 1), many=2)
        self.check(oracle.flat({(1, 0): 1}), (3, 2, 0), many=3)

    def test_told_forms_of_base_3(self):
        one = oracle.flat({(0, 0): 1})
        self.check(one, (1, 2, 1), many=1, base=3)
        self.check(one, (2, 3, 0), many=2, base=3)
        self.check(one, (2, 2, 0), many=3, base=3)
        self.check(one, (6, 3, 0), many=6, base=3)
        self.check(one, (4, 2, 0), many=9, base=3)
        square = oracle.flat({(2, 3): 1})
        self.check(square, (4, 2, 3), many=8, base=3)
        self.check(square, (4, 2, 4), many=9, base=3)
        self.check(oracle.flat({(3, 0): 1}), (8, 2, 0), many=9, base=3)

    def test_every_case(self):
        for p in range(5):
            for q in range(3):
                sums = oracle.sums((0, {(4, 4): 1}), (3, {(p, q): Fraction(1, 2), (0, 0): 1}))
                for many in range(10):
                    for base in (2, 3):
                        self.check(sums, grown(sums, many, base), many=many, base=base)

    def test_no_terms_in_any_row(self):
        for many in range(1, 10):
            for base in (2, 3):
                self.check(NONE, None, many=many, base=base)
                self.check([(0, []), (4, []), (9, [])], None, many=many, base=base)

    def test_uneven(self):
        for sums in (
            [(0, []), (1, [((0, 0), (1, 1))]), (2, [])],
            [(0, [((1, 0), (1, 1))]), (4, [])],
            [(0, [((0, 1), (1, 1))]), (4, [])],
            [(0, [((2, 0), (1, 2)), ((1, 0), (3, 1))]), (4, [((1, 0), (1, 1))]), (6, [])],
        ):
            for many in range(1, 10):
                for base in (2, 3):
                    self.check(sums, "Uneven", many=many, base=base)
            self.check(sums, None)

    def test_beside_uneven(self):
        # Not nought at 0.
        for terms in ({(0, 0): 1}, {(1, 0): 1, (0, 0): Fraction(-1, 3)}, {(3, 3): -1, (0, 1): 1, (0, 0): 1}):
            sums = oracle.sums((0, terms), (4, {}))
            for many in range(1, 10):
                self.check(sums, (many, 2, 0), many=many, base=2)
                self.check(sums, turned(many, 3, 0), many=many, base=3)
        # Terms in the last row.
        self.check(oracle.sums((0, {}), (4, {(0, 0): 1})), (1, 2, 1), many=1)
        self.check(oracle.sums((0, {}), (4, {(0, 0): 1})), (2, 2, 0), many=2)

    def test_kinds(self):
        self.assertEqual(str(inspect.signature(growth)), "(sums, *, many=0, base=2)")
        self.assertEqual(str(inspect.signature(greater_growth)), "(one, other)")
        self.assertEqual(str(inspect.signature(growth_text)), "(growth)")


class TestGreaterGrowth(unittest.TestCase):
    def order(self, one, other, wanted):
        told = greater_growth(one, other)
        self.assertEqual(told, wanted, (one, other))
        self.assertIs(type(told), int)
        self.assertEqual(greater_growth(other, one), -wanted, (other, one))

    def test_none_is_the_least(self):
        self.order(None, None, 0)
        for other in ((1, 2, 0), (1, 2, 9), (2, 3, 0), (512, 2, 9)):
            self.order(None, other, -1)

    def test_like_powers_by_figures(self):
        for times, base in ((1, 2), (2, 2), (512, 2), (2, 3), (8, 3), (7, 2)):
            for figures in range(4):
                for other in range(4):
                    self.order((times, base, figures), (times, base, other), (figures > other) - (figures < other))

    def test_all_pairs(self):
        # No two told powers of other bases come closer than floats tell apart.
        growths = [(times, 2) for times in (1, 2, 3, 4, 5, 6, 7, 8, 9, 16, 32, 64, 128, 256, 512)]
        growths += [(times, 3) for times in (2, 4, 5, 6, 7, 8)]
        for one in growths:
            for other in growths:
                apart = log(one[0]) / log(one[1]) - log(other[0]) / log(other[1])
                wanted = 0 if one == other else 1 if apart > 0 else -1
                self.assertTrue(one == other or abs(apart) > 0.001)
                self.order((*one, 0), (*other, 0), wanted)
                if wanted != 0:
                    self.order((*one, 0), (*other, 10), wanted)
                    self.order((*one, 10), (*other, 0), wanted)

    def test_some(self):
        self.order((3, 2, 0), (6, 3, 0), -1)
        self.order((2, 2, 9), (4, 3, 0), -1)
        self.order((2, 2, 0), (2, 3, 0), 1)
        self.order((3, 2, 0), (5, 3, 0), 1)
        self.order((4, 2, 0), (8, 3, 0), 1)
        self.order((1, 2, 5), (2, 3, 0), -1)


class TestGrowthText(unittest.TestCase):
    def test_texts(self):
        self.assertEqual(growth_text(None), "none")
        self.assertEqual(growth_text((4, 2, 1)), "4 by 2, figures 1")
        self.assertEqual(growth_text((1, 2, 0)), "1 by 2, figures 0")
        self.assertEqual(growth_text((7, 3, 0)), "7 by 3, figures 0")
        self.assertEqual(growth_text((512, 2, 10)), "512 by 2, figures 10")
