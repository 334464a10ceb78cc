"""[1], [2], [9], [10]: what sums come to at a size, and how they are written."""

import inspect
import unittest
from fractions import Fraction
from math import gcd

from outgrow.tables import sums_text, worth
from tests import oracle

BIG = 10 ** 30 - 1


class TestWorth(unittest.TestCase):
    def check(self, sums, size, wanted):
        told = oracle.kept(self, [sums, size], worth)
        self.assertEqual(told, oracle.part(wanted), (sums, size))
        self.assertIs(type(told), tuple)
        self.assertEqual([type(number) for number in told], [int, int])

    def test_no_terms_come_to_nought(self):
        for size in (0, 1, BIG):
            self.check([(0, [])], size, 0)
            self.check([(0, []), (5, [])], size, 0)

    def test_one_term(self):
        for size in (0, 1, 2, 3, 4, 7, 8, 1023, 1024, BIG):
            figures = 0 if size == 0 else len(bin(size)) - 2
            for p in range(10):
                for q in range(10):
                    self.check(oracle.flat({(p, q): 1}), size, size ** p * figures ** q)
                    self.check(oracle.flat({(p, q): Fraction(-3, 7)}), size, Fraction(-3, 7) * size ** p * figures ** q)

    def test_any_number_to_the_power_nought_is_one(self):
        self.check(oracle.flat({(0, 0): 5}), 0, 5)
        self.check(oracle.flat({(0, 0): Fraction(1, 2), (1, 0): 4, (0, 1): 4, (1, 1): 4}), 0, Fraction(1, 2))

    def test_lowest_terms(self):
        half = oracle.flat({(2, 0): Fraction(1, 2), (1, 0): Fraction(-1, 2)})
        for size in range(20):
            self.check(half, size, size * (size - 1) // 2)
        sixth = oracle.flat({(1, 0): Fraction(1, 6)})
        for size, told in ((0, (0, 1)), (1, (1, 6)), (2, (1, 3)), (3, (1, 2)), (4, (2, 3)), (6, (1, 1)), (9, (3, 2))):
            self.assertEqual(worth(sixth, size), told)
        minus = oracle.flat({(1, 0): Fraction(-1, 6)})
        for size, told in ((0, (0, 1)), (1, (-1, 6)), (2, (-1, 3)), (6, (-1, 1)), (9, (-3, 2))):
            self.assertEqual(worth(minus, size), told)

    def test_parts_that_cancel(self):
        sums = oracle.flat({(1, 1): 1, (1, 0): -4, (0, 1): Fraction(1, 3), (0, 0): Fraction(-4, 3)})
        for size in (8, 11, 15):
            self.assertEqual(worth(sums, size), (0, 1))
        self.check(sums, 7, Fraction(-7 - 0) - Fraction(1, 3))
        self.check(sums, 16, Fraction(16) + Fraction(1, 3))

    def test_rows_by_their_since(self):
        sinces = (0, 1, 2, 10, 11, 4096, 10 ** 20, BIG)
        sums = oracle.sums(*[(since, {(0, 0): place + 1, (1, 0): place % 2}) for place, since in enumerate(sinces)])
        for place, since in enumerate(sinces):
            for size in (since - 1, since, since + 1):
                if 0 <= size <= BIG:
                    row = max(each for each, start in enumerate(sinces) if start <= size)
                    self.check(sums, size, row + 1 + size * (row % 2))

    def test_rows_without_terms_between(self):
        sums = [(0, []), (3, [((1, 0), (1, 1))]), (5, [])]
        self.assertEqual([worth(sums, size) for size in range(7)], [(0, 1)] * 3 + [(3, 1), (4, 1), (0, 1), (0, 1)])

    def test_great_sums(self):
        chance = oracle.seeded(9)
        for turn in range(60):
            sums = oracle.random_sums(chance, 8, 8, over=BIG, under=9999, since=BIG, power=9, figures=9)
            for size in (0, 1, chance.randint(0, 1000), chance.randint(0, BIG), BIG, sums[5][0], sums[5][0] - 1):
                self.check(sums, size, oracle.total(sums, size))
                over, under = worth(sums, size)
                self.assertEqual((gcd(over, under), under > 0), (1, True))

    def test_kinds(self):
        self.assertEqual(str(inspect.signature(worth)), "(sums, size)")
        self.assertEqual(str(inspect.signature(sums_text)), "(sums)")


class TestSumsText(unittest.TestCase):
    def check(self, sums, text):
        self.assertEqual(oracle.kept(self, [sums], sums_text), text)

    def test_the_document_s_own(self):
        sums = [(0, []), (3, [((2, 0), (1, 2)), ((1, 2), (5, 1)), ((1, 0), (-3, 2))])]
        self.check(sums, "0: 0 | 3: 1/2 n^2 + 5 n d^2 + -3/2 n")

    def test_no_terms(self):
        self.check([(0, [])], "0: 0")
        self.check([(0, []), (7, []), (12, [])], "0: 0 | 7: 0 | 12: 0")

    def test_parts(self):
        for part, text in (((1, 1), "1"), ((5, 1), "5"), ((-5, 1), "-5"), ((1, 2), "1/2"), ((-1, 2), "-1/2"),
                           ((12, 35), "12/35"), ((10 ** 30 - 1, 9998), f"{10 ** 30 - 1}/9998")):
            self.check([(0, [((0, 0), part)])], f"0: {text}")
            self.check([(0, [((1, 0), part)])], f"0: {text} n")
            self.check([(0, [((0, 3), part)])], f"0: {text} d^3")

    def test_powers(self):
        for powers, text in (((0, 0), "1"), ((1, 0), "1 n"), ((2, 0), "1 n^2"), ((9, 0), "1 n^9"), ((0, 1), "1 d"),
                             ((0, 2), "1 d^2"), ((0, 9), "1 d^9"), ((1, 1), "1 n d"), ((2, 1), "1 n^2 d"),
                             ((1, 2), "1 n d^2"), ((3, 4), "1 n^3 d^4"), ((10, 11), "1 n^10 d^11")):
            self.check([(0, [(powers, (1, 1))])], f"0: {text}")

    def test_rows(self):
        sums = [(0, [((0, 0), (2, 1))]), (1, [((1, 1), (-1, 3)), ((0, 0), (4, 1))]), (10 ** 29, [((0, 1), (1, 1))])]
        self.check(sums, f"0: 2 | 1: -1/3 n d + 4 | {10 ** 29}: 1 d")
