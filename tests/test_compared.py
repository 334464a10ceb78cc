"""[1], [13]: which of two sums is more from some size on, and from which least one."""

import inspect
import unittest
from fractions import Fraction

from outgrow.errors import Far
from outgrow.tables import compared, is_shown, shown
from tests import oracle
from tests.oracle import flat

BIG = 10 ** 30 - 1
TURNED = {"more": "less", "less": "more", "alike": "alike"}


def reached(one, other):
    """Figures from which on small sums can turn no more: by far more than [14] wants."""
    first_size = max(one[-1][0], other[-1][0])
    last = oracle.polynomial(one, other, first_size)
    if not last:
        return first_size.bit_length() + 1
    greatest = max(p for p, q in last)
    lead = oracle.by_figures(last, greatest)
    # The lead has no root beyond this one (Cauchy), nor have the lesser terms any weight.
    low = 2 + max(abs(share) for share in lead.values()) // abs(lead[max(lead)])
    while not oracle.low_is_met(last, first_size, low):
        low += 1
    return low


class Compared(unittest.TestCase):
    def check(self, one, other, word, size):
        told = oracle.kept(self, [one, other], compared)
        self.assertEqual(told, (word, size))
        self.assertEqual([type(told), type(told[0]), type(told[1])], [tuple, str, int])
        self.assertEqual(oracle.kept(self, [other, one], compared), (TURNED[word], size))
        self.assertTrue(is_shown(one, other, told, shown(one, other)))

    def far(self, one, other):
        for ask in (compared, shown):
            with self.assertRaises(Far):
                oracle.kept(self, [one, other], ask)
            with self.assertRaises(Far):
                oracle.kept(self, [other, one], ask)


class TestSmall(Compared):
    def gone_through(self, chance, many, **form):
        words = {"more": 0, "less": 0, "alike": 0}
        while sum(words.values()) < many:
            one = oracle.random_sums(chance, chance.randint(1, 4), chance.randint(0, 3), **form)
            other = oracle.random_sums(chance, chance.randint(1, 4), chance.randint(0, 3), **form)
            if chance.random() < 0.2:
                other[-1] = (other[-1][0], list(one[-1][1]))
            figures = reached(one, other)
            if figures <= 11:
                word, size = oracle.gone_through(one, other, 1 << figures)
                self.check(one, other, word, size)
                words[word] += 1
        for word in words:
            self.assertGreater(words[word], 0)

    def test_powers_of_n_alone(self):
        self.gone_through(oracle.seeded(1), 40, figures=0, power=3)

    def test_powers_of_both(self):
        self.gone_through(oracle.seeded(2), 40, over=3, figures=1)

    def test_parts_that_are_not_whole(self):
        self.gone_through(oracle.seeded(3), 30, over=2, under=2, figures=1)

    def test_powers_of_d_alone(self):
        self.gone_through(oracle.seeded(4), 40, power=0, figures=2, over=4, since=60)

    def test_by_hand(self):
        line, square = flat({(1, 0): 1}), flat({(2, 0): 1})
        self.check(square, line, "more", 2)
        self.check(square, flat({(1, 0): 5}), "more", 6)
        self.check(square, flat({(1, 0): 5, (0, 0): -7}), "more", 0)
        self.check(square, flat({(1, 0): 4, (0, 0): -4}), "more", 3)
        self.check(line, flat({(0, 1): 1}), "more", 3)
        self.check(line, flat({(0, 0): 5}), "more", 6)
        self.check(flat({(0, 1): 1}), flat({(0, 0): 5}), "more", 32)
        self.check(flat({(1, 0): Fraction(1, 3)}), flat({(0, 0): Fraction(10, 3)}), "more", 11)

    def test_alike(self):
        line = flat({(1, 0): 1})
        self.check(line, line, "alike", 0)
        self.check([(0, [])], [(0, []), (5, []), (9, [])], "alike", 0)
        self.check(line, oracle.sums((0, {(0, 0): 1}), (2, {(1, 0): 1})), "alike", 1)
        self.check(line, oracle.sums((0, {(0, 0): 3}), (7, {(1, 0): 1})), "alike", 7)
        self.check(line, oracle.sums((0, {(0, 0): 6}), (7, {(1, 0): 1})), "alike", 6)
        self.check(line, oracle.sums((0, {(2, 0): 1}), (2, {(1, 0): 1})), "alike", 0)
        self.check(line, oracle.sums((0, {(2, 0): 1}), (3, {(1, 0): 1})), "alike", 3)
        self.check(line, oracle.sums((0, {(1, 0): 1}), (3, {}), (5, {(1, 0): 1}), (BIG, {(1, 0): 1})), "alike", 5)
        # d - 4 is nought at the last 8 sizes ahead of 16.
        self.check(line, oracle.sums((0, {(1, 0): 1, (0, 1): 1, (0, 0): -4}), (16, {(1, 0): 1})), "alike", 8)
        self.check([(0, [])], oracle.sums((0, {(3, 0): 1, (0, 0): -1}), (BIG, {})), "alike", BIG)
        roots = {(3, 0): 1, (2, 0): -27, (1, 0): 242, (0, 0): -720}  # (n - 8) (n - 9) (n - 10)
        self.check([(0, [])], oracle.sums((0, roots), (11, {})), "alike", 8)
        self.check([(0, [])], oracle.sums((0, roots), (12, {})), "alike", 12)

    def test_several_rows(self):
        one = oracle.sums((0, {(0, 0): 1}), (10, {(1, 0): 1}), (20, {}), (30, {(1, 0): 2}))
        self.check(one, flat({(1, 0): 1}), "more", 30)
        self.check(one, flat({(0, 0): 2}), "more", 30)
        self.check(one, flat({(0, 0): -2}), "more", 0)
        self.check(one, oracle.sums((0, {}), (25, {(1, 0): 2, (0, 0): -1})), "more", 30)
        self.check(one, oracle.sums((0, {(0, 0): -1}), (40, {(1, 0): 2, (0, 0): 1})), "less", 40)
        self.check(one, oracle.sums((0, {(0, 0): -1}), (40, {(1, 0): 2, (0, 0): -1})), "more", 0)

    def test_a_turn_at_the_last_size_of_a_row_and_at_the_first(self):
        for since in (7, 8, 9, BIG - 1, BIG):
            low = oracle.sums((0, {}), (since, {(1, 0): 1}))
            self.check(low, [(0, [])], "more", since)
            self.check(low, oracle.sums((0, {(0, 0): -1}), (since, {(0, 0): since})), "more", since + 1)
            self.check(low, oracle.sums((0, {(1, 0): -1, (0, 0): since - 1}), (since, {})), "more", since)
            self.check(low, oracle.sums((0, {(1, 0): -1, (0, 0): since - 2}), (since, {})), "more", since - 1)
            self.check(low, oracle.sums((0, {(1, 0): 1, (0, 0): -since + 1}), (since, {})), "more", since)
            self.check(low, oracle.sums((0, {(1, 0): 1, (0, 0): -since}), (since, {})), "more", 0)


class TestGreat(Compared):
    def test_crossings_at_just_one_size(self):
        self.check(flat({(1, 0): 1}), flat({(0, 0): BIG}), "more", BIG + 1)
        self.check(flat({(2, 0): 1}), flat({(1, 0): BIG, (0, 0): -1}), "more", BIG)
        self.check(flat({(2, 0): 1}), flat({(1, 0): BIG}), "more", BIG + 1)
        self.check(flat({(2, 0): 1}), flat({(1, 0): BIG, (0, 0): 1}), "more", BIG + 1)
        self.check(flat({(1, 0): Fraction(1, 9999)}), flat({(0, 0): BIG}), "more", BIG * 9999 + 1)
        # n (n - 2^90) (n - 2^91): of degree 3, with two sizes between which it turns.
        ups = {(3, 0): Fraction(1, 2 ** 10), (2, 0): -3 * 2 ** 80, (1, 0): 0}
        self.check(flat(ups), [(0, [])], "more", 3 * 2 ** 90 + 1)

    def test_touching(self):
        square = {(2, 0): 1, (1, 0): -2 * 10 ** 14, (0, 0): 10 ** 28}
        self.check(flat(square), [(0, [])], "more", 10 ** 14 + 1)
        self.check(flat({**square, (0, 0): 10 ** 28 + 1}), [(0, [])], "more", 0)
        self.check(flat({**square, (0, 0): 10 ** 28 - 1}), [(0, [])], "more", 10 ** 14 + 2)

    def test_figures_beside_n(self):
        one = flat({(1, 0): 1})
        for many in (1, 7, 100, BIG):
            for q in (1, 5, 9):
                other = flat({(0, q): many})
                word, size = compared(one, other)
                self.check(one, other, "more", size)
                self.assertGreater(size, many * size.bit_length() ** q)
                self.assertLessEqual(size - 1, many * (size - 1).bit_length() ** q)

    def test_hundreds_of_figures(self):
        # n over 9,999 against a great part times d^9: it crosses within a block of about 190 figures.
        one, other = flat({(1, 0): Fraction(1, 9999)}), flat({(0, 9): BIG})
        word, size = compared(one, other)
        self.assertGreater(size.bit_length(), 180)
        self.assertEqual(size - 1, BIG * 9999 * size.bit_length() ** 9)
        self.check(one, other, "more", size)
        for figures in (100, 321, 999):
            one = flat({(1, 1): 1})
            self.check(one, flat({(1, 0): figures}), "more", 1 << figures)
            self.check(one, flat({(1, 0): figures, (0, 0): 1}), "more", 1 << figures)
            self.check(one, flat({(1, 0): figures, (0, 0): -1}), "more", 1 << (figures - 1))
            self.check(one, flat({(1, 0): Fraction(2 * figures - 1, 2)}), "more", 1 << (figures - 1))
            self.check(flat({(9, 9): 1}), flat({(9, 8): figures, (8, 9): 10 ** 6}), "more", 1 << figures)
            self.check(flat({(0, 2): 1}), flat({(0, 1): 2 * figures, (0, 0): -figures ** 2}), "more", 1 << figures)

    def test_a_lead_that_is_nought_at_some_figures(self):
        # (d - 50) (d - 60) (d - 60) n^2, with lesser terms that decide at 50 and at 60 figures.
        lead = {(2, 3): 1, (2, 2): -170, (2, 1): 9600, (2, 0): -180000}
        for lesser, figures in (({(1, 0): 1}, 49), ({(1, 0): -1}, 60), ({(1, 1): 1, (1, 0): -55}, 50),
                                ({(1, 1): -1, (1, 0): 55}, 60), ({(1, 1): 1, (1, 0): -60, (0, 0): 1}, 50),
                                ({(1, 1): 1, (1, 0): -60, (0, 0): -1}, 60), ({(1, 1): 1, (1, 0): -60}, 60)):
            self.check(flat({**lead, **lesser}), [(0, [])], "more", 1 << figures)

    def test_far(self):
        d = flat({(0, 1): 1})
        self.check(d, flat({(0, 0): 1999}), "more", 1 << 1999)
        self.check(d, flat({(0, 0): 2000}), "more", 1 << 2000)
        self.far(d, flat({(0, 0): 2001}))
        self.check(d, flat({(0, 0): Fraction(4001, 2)}), "more", 1 << 2000)
        self.far(d, flat({(0, 0): BIG}))
        self.check(flat({(3, 1): 1}), flat({(3, 0): 2000, (2, 9): 5}), "more", 1 << 2000)
        self.far(flat({(3, 1): 1}), flat({(3, 0): 2002}))
        # At just 2,001 figures the lead is nought: what is below it decides.
        self.far(flat({(3, 1): 1}), flat({(3, 0): 2001, (2, 0): 1}))
        self.far(flat({(3, 1): 1}), flat({(3, 0): 2001}))
        self.check(flat({(3, 1): 1}), flat({(3, 0): 2001, (2, 0): -1}), "more", 1 << 2000)
        self.far(flat({(9, 9): 1}), flat({(9, 0): BIG, (9, 8): BIG}))
        self.far(flat({(0, 9): Fraction(1, 9999)}), flat({(0, 8): BIG}))

    def test_far_is_told_of_a_wrong_stretch_beyond_right_ones(self):
        # (d - 10) (d - 3000) (d - 3002) n is right at some figures, and wrong at 3,001 ones.
        lead = {(1, 3): 1, (1, 2): -6012, (1, 1): 3000 * 3002 + 10 * 6002, (1, 0): -10 * 3000 * 3002}
        self.far(flat(lead), [(0, [])])
        # Nought there, not wrong, where the lesser term helps.
        touch = {(1, 2): 1, (1, 1): -6000, (1, 0): 9000000}
        self.far(flat(touch), [(0, [])])
        self.far(flat({**touch, (0, 0): -1}), [(0, [])])
        self.check(flat({**touch, (0, 0): 1}), [(0, [])], "more", 0)

    def test_great_sums_of_eight_rows(self):
        chance = oracle.seeded(13)
        for turn in range(40):
            since = chance.choice([40, BIG])
            form = {"over": chance.choice([9, BIG]), "under": chance.choice([1, 9999]), "since": since}
            one = oracle.random_sums(chance, 8, 8, power=9, figures=9, **form)
            other = oracle.random_sums(chance, 8, 8, power=9, figures=9, **form)
            try:
                word, size = oracle.kept(self, [one, other], compared)
            except Far:
                continue
            self.check(one, other, word, size)
            wanted = oracle.SIGNS[word]
            for each in (size, size + 1, 2 * size + 1, size ** 2 + 5):
                self.assertEqual(oracle.sign(oracle.total(one, each) - oracle.total(other, each)), wanted)
            if size > 0:
                self.assertNotEqual(oracle.sign(oracle.total(one, size - 1) - oracle.total(other, size - 1)), wanted)

    def test_great_sums_that_are_right_all_along(self):
        # No size at which it is not so stops the search: all sizes are gone through.
        unders = [9973, 9967, 9949, 9941, 9931, 9929, 9923, 9907, 9901, 9887, 9883, 9871, 9859, 9857, 9851, 9839]
        keys = [(9 - place // 2, 9 - place % 2) for place in range(16)]
        terms = {key: Fraction(BIG - place, under) for place, (key, under) in enumerate(zip(keys, unders))}
        terms[(9, 9)] = Fraction(1, 9973)
        one = {key: terms[key] for key in keys[::2]}
        other = {key: -terms[key] for key in keys[1::2]}
        sinces = [0, 5, 10 ** 9, 10 ** 20, 10 ** 21, 10 ** 28, BIG - 1, BIG]
        self.check(oracle.sums(*[(since, one) for since in sinces]), oracle.sums(*[(since, other) for since in sinces]),
                   "more", 1)

    def test_kinds(self):
        self.assertEqual(str(inspect.signature(compared)), "(one, other)")
