"""[1], [14]: the rows that show an answer, and whether rows show one."""

import copy
import inspect
import unittest
from fractions import Fraction

from outgrow.errors import Far
from outgrow.tables import compared, is_shown, shown
from tests import oracle
from tests.oracle import flat

BIG = 10 ** 30 - 1
HUGE = 10 ** 699 + 7

SQUARE = flat({(2, 0): 1})
LINE = flat({(1, 0): 1})
FIGURES = flat({(0, 1): 1})
NONE = [(0, [])]

# (d - 12) (d - 20)^2 n^2 + n: nought in its lead at 12 and at 20 figures.
BLOCKS = flat({(2, 3): 1, (2, 2): -52, (2, 1): 880, (2, 0): -4800, (1, 0): 1})
WAVES = flat({(3, 0): 1, (2, 0): -300, (1, 0): 29999, (0, 0): -999000})

PAIRS = [
    (SQUARE, flat({(1, 0): 5})),
    (SQUARE, flat({(1, 0): 5, (0, 0): -7})),
    (LINE, flat({(0, 2): 3})),
    (FIGURES, flat({(0, 0): 9})),
    (FIGURES, flat({(0, 0): 2000})),
    (BLOCKS, NONE),
    (NONE, BLOCKS),
    (WAVES, NONE),
    (WAVES, flat({(2, 1): 1})),
    (flat({(0, 3): 1, (0, 0): 1}), flat({(0, 2): 90, (0, 1): -2699})),
    (oracle.sums((0, {(0, 0): 1}), (10, {(1, 0): 1}), (20, {}), (30, {(1, 0): 2})), flat({(0, 1): 1, (0, 0): -3})),
    (flat({(1, 0): Fraction(1, 9999)}), flat({(0, 9): BIG})),
    (flat({(2, 1): Fraction(1, 6), (1, 0): -40}), flat({(2, 0): 2, (0, 0): Fraction(1, 4)})),
    (LINE, LINE),
    (LINE, oracle.sums((0, {(0, 0): 3}), (7, {(1, 0): 1}))),
]


def answers():
    return [(one, other, compared(one, other), shown(one, other)) for one, other in PAIRS]


class Shown(unittest.TestCase):
    def holds(self, one, other, answer, rows, wanted):
        told = oracle.kept(self, [one, other, answer, rows], is_shown)
        self.assertIs(told, wanted, (answer[0], rows))

    def like(self, one, other, answer, rows):
        """What is_shown tells is what the document's words come to; that is told on."""
        wanted = oracle.shows(one, other, answer, rows)
        self.holds(one, other, answer, rows, wanted)
        return wanted


class TestShown(Shown):
    def check(self, one, other):
        word, size = compared(one, other)
        rows = oracle.kept(self, [one, other], shown)
        self.assertIs(type(rows), list)
        for row in rows:
            self.assertIs(type(row), tuple)
        self.assertTrue(oracle.shows(one, other, (word, size), rows), (word, size, rows))
        self.holds(one, other, (word, size), rows, True)
        self.assertEqual(shown(one, other), rows)

    def test_pairs(self):
        for one, other in PAIRS:
            self.check(one, other)
            self.check(other, one)

    def test_the_first_row_begins_with_the_size_and_the_last_has_no_end(self):
        for one, other, (word, size), rows in answers():
            if word == "alike":
                self.assertEqual(rows, [("alike", size, None)])
            else:
                self.assertTrue(oracle.begins_at(rows[0], size))
                for ahead, row in zip(rows, rows[1:]):
                    self.assertTrue(oracle.follows(ahead, row), (ahead, row))
                self.assertEqual((rows[-1][0], rows[-1][2]), ("figures", None))

    def test_small_sums(self):
        chance = oracle.seeded(21)
        for turn in range(120):
            form = {"over": 6, "under": chance.choice([1, 4]), "power": chance.choice([0, 2, 4])}
            one = oracle.random_sums(chance, chance.randint(1, 4), chance.randint(0, 4), **form)
            other = oracle.random_sums(chance, chance.randint(1, 4), chance.randint(0, 4), **form)
            self.check(one, other)

    def test_great_sums(self):
        chance = oracle.seeded(22)
        for turn in range(6):
            form = {"over": BIG, "under": 9999, "since": chance.choice([50, BIG]), "power": 9, "figures": 9}
            one = oracle.random_sums(chance, 8, 8, **form)
            other = oracle.random_sums(chance, 8, 8, **form)
            try:
                compared(one, other)
            except Far:
                continue
            self.check(one, other)

    def test_low_may_be_very_great(self):
        # Its lead falls up to two thirds of 10^10 figures, and stays above nought.
        one = flat({(1, 3): 1, (1, 0): 2 * 10 ** 29})
        other = flat({(1, 2): 10 ** 10})
        self.check(one, other)
        self.assertGreater(shown(one, other)[-1][1], 10 ** 9)
        self.assertEqual(compared(one, other)[0], "more")

    def test_each_told_list_is_a_new_one(self):
        for one, other in PAIRS:
            rows = shown(one, other)
            before = copy.deepcopy(rows)
            rows.append("more")
            rows[0] = None
            self.assertEqual(shown(one, other), before)

    def test_kinds(self):
        self.assertEqual(str(inspect.signature(shown)), "(one, other)")
        self.assertEqual(str(inspect.signature(is_shown)), "(one, other, answer, rows)")


class TestChangedRows(Shown):
    """Each of these leaves a gap or an overlap, or tells of another answer: it shows nothing."""

    def test_rows_left_out_doubled_and_exchanged(self):
        for one, other, answer, rows in answers():
            self.holds(one, other, answer, [], False)
            for place in range(len(rows)):
                self.holds(one, other, answer, rows[:place] + rows[place + 1:], False)
                self.holds(one, other, answer, rows[:place] + [rows[place]] + rows[place:], False)
                if place > 0:
                    turned = rows[:place - 1] + [rows[place], rows[place - 1]] + rows[place + 1:]
                    self.holds(one, other, answer, turned, False)
            self.holds(one, other, answer, rows + rows, False)
            if len(rows) > 1:
                self.holds(one, other, answer, rows[::-1], False)

    def test_bounds_turned_by_one(self):
        for one, other, answer, rows in answers():
            for place, (kind, low, high) in enumerate(rows):
                changed = [(kind, low + 1, high), (kind, low - 1, high), (kind, -low - 1, high)]
                if high is not None:
                    changed += [(kind, low, high + 1), (kind, low, high - 1), (kind, low, None), (kind, high + 1, low)]
                else:
                    changed += [(kind, low, low), (kind, low, low + 1), (kind, low, HUGE)]
                for row in changed:
                    self.holds(one, other, answer, rows[:place] + [row] + rows[place + 1:], False)

    def test_another_word(self):
        for one, other, (word, size), rows in answers():
            for wrong in ("more", "less", "alike", "", "More", "more ", "figures", "no", "x" * 4000):
                if wrong != word:
                    self.holds(one, other, (wrong, size), rows, False)
                    self.holds(one, other, (wrong, size), [(wrong, size, None)], False)

    def test_another_size(self):
        for one, other, (word, size), rows in answers():
            for wrong in (size - 1, size + 1, 0, 2 * size + 1, (1 << 2001) - 1, 1 << 2000):
                if wrong != size and wrong >= 0:
                    self.holds(one, other, (word, wrong), rows, False)
                    self.holds(one, other, (word, wrong), [(rows[0][0], wrong, *rows[0][2:])] + rows[1:], False)

    def test_an_answer_that_is_not_the_least_size(self):
        for one, other, (word, size), rows in answers():
            if word == "alike":
                self.holds(one, other, (word, size + 1), [("alike", size + 1, None)], False)
                if size > 0:
                    self.holds(one, other, (word, size - 1), [("alike", size - 1, None)], False)
            else:
                # The rows behind the first one are right, but at the size below theirs it is so, too.
                kind, low, high = rows[0]
                later = (high + 1) if kind == "sizes" else (1 << high) if high is not None else None
                if later is not None:
                    self.holds(one, other, (word, later), rows[1:], False)
        self.holds(SQUARE, LINE, ("more", 3), [("sizes", 3, 3), ("figures", 3, None)], False)
        self.holds(SQUARE, LINE, ("more", 2), [("sizes", 2, 3), ("figures", 3, None)], True)

    def test_a_turned_answer(self):
        for one, other, (word, size), rows in answers():
            if word != "alike":
                turned = "less" if word == "more" else "more"
                self.holds(one, other, (turned, size), rows, False)
                self.holds(other, one, (word, size), rows, False)
                self.holds(other, one, (turned, size), rows, True)


class TestOtherKinds(Shown):
    STRANGE = [None, True, False, 0, 1, -1, HUGE, "", "more", "sizes", (), [], (None,), [[]], ("sizes",), ("sizes", 0),
               ("sizes", 0, 0, 0), ["sizes", 0, 0], ("figures", 1, None, None), ("figures", 1), ["figures", 1, None],
               (0, 0, 0), (None, None, None), (True, True, True), ("", 0, 0), ("alike", 0, None), ("Sizes", 0, 0),
               (("sizes", 0, 0),), [("sizes", 0, 0)], ("sizes", "0", "0"), ("sizes", None, None), ("sizes", [0], [0]),
               ("sizes", (0,), (0,)), ("figures", "1", None), ("figures", None, None), ("figures", [], None),
               ("figures", 0, None), ("figures", 0, 5), ("figures", -1, None), ("block", 0, 0), ("sizes", -1, -1),
               ("block", None, None), ("block", 1, None), ("block", "1", "1"), (["sizes"], 0, 0), ((), 0, 0)]

    def test_strange_rows(self):
        for one, other, answer, rows in answers():
            for strange in self.STRANGE:
                self.like(one, other, answer, [strange])
                self.holds(one, other, answer, [strange] + rows, False)
                self.holds(one, other, answer, rows + [strange], False)
                middle = len(rows) // 2
                self.holds(one, other, answer, rows[:middle] + [strange] + rows[middle:], False)

    def test_rows_that_are_no_tuples_of_three(self):
        for one, other, answer, rows in answers():
            for place, row in enumerate(rows):
                for wrong in (list(row), (row,), row[:2], row + (None,), row + (0,), (list(row),), str(row)):
                    self.holds(one, other, answer, rows[:place] + [wrong] + rows[place + 1:], False)

    def test_true_and_false_are_no_numbers(self):
        self.holds(LINE, LINE, ("alike", 0), [("alike", 0, None)], True)
        self.holds(LINE, LINE, ("alike", 0), [("alike", False, None)], False)
        late = oracle.sums((0, {(0, 0): 1}), (1, {(1, 0): 1}))
        self.holds(LINE, late, ("alike", 1), [("alike", 1, None)], True)
        self.holds(LINE, late, ("alike", 1), [("alike", True, None)], False)
        for low, high, wanted in ((0, 0, True), (False, 0, False), (0, False, False), (False, False, False)):
            rows = [("sizes", low, high), ("figures", 1, None)]
            self.holds(flat({(0, 0): 1}), NONE, ("more", 0), rows, wanted)
        for low, high, wanted in ((1, 1, True), (True, 1, False), (1, True, False), (True, True, False)):
            rows = [("sizes", 0, 0), ("sizes", low, high), ("figures", 2, None)]
            self.holds(flat({(0, 0): 1}), NONE, ("more", 0), rows, wanted)
            for kind in ("figures", "block"):
                rows = [("sizes", 0, 0), (kind, low, high), ("figures", 2, None)]
                self.holds(flat({(0, 0): 1}), NONE, ("more", 0), rows, wanted)
        rows = [("sizes", 0, 0), ("figures", True, None)]
        self.holds(flat({(0, 0): 1}), NONE, ("more", 0), rows, False)
        self.holds(flat({(0, 0): 1}), NONE, ("more", 0), [("sizes", 0, 0), ("figures", 1, False)], False)

    def test_alike(self):
        self.holds(LINE, LINE, ("alike", 0), [("alike", 0, None), ("alike", 0, None)], False)
        self.holds(LINE, LINE, ("alike", 0), [("alike", 0, 0)], False)
        self.holds(LINE, LINE, ("alike", 0), [["alike", 0, None]], False)
        self.holds(LINE, LINE, ("alike", 0), [("alike", 0)], False)
        self.holds(LINE, LINE, ("alike", 0), [("alike", 1, None)], False)
        self.holds(LINE, LINE, ("alike", 0), [("figures", 1, None)], False)
        self.holds(LINE, LINE, ("more", 0), [("sizes", 0, 0), ("figures", 1, None)], False)
        self.holds(LINE, SQUARE, ("alike", 0), [("alike", 0, None)], False)
        self.holds(LINE, SQUARE, ("alike", 1), [("alike", 1, None)], False)
        # Alike from 6 on, unlike at 7 again.
        other = oracle.sums((0, {(0, 0): 6}), (7, {(1, 0): 2, (0, 0): -6}), (8, {(1, 0): 1}))
        self.holds(LINE, other, ("alike", 6), [("alike", 6, None)], False)
        self.holds(LINE, other, ("alike", 8), [("alike", 8, None)], True)


class TestOtherRows(Shown):
    """Rows that are not those that are told, and show it all the same, or just not."""

    def test_rows_parted_further(self):
        right = 0
        for one, other, answer, rows in answers():
            for place, (kind, low, high) in enumerate(rows):
                if kind not in ("sizes", "figures") or high == low:
                    continue
                top = high if high is not None else 3 * low
                for cut in {low, (low + top) // 2, top - 1}:
                    parted = rows[:place] + [(kind, low, cut), (kind, cut + 1, high)] + rows[place + 1:]
                    if self.like(one, other, answer, parted):
                        right += 1
        self.assertGreater(right, 50)

    def test_joined_rows(self):
        found = {True: 0, False: 0}
        for one, other, answer, rows in answers():
            for place in range(len(rows) - 1):
                first, second = rows[place], rows[place + 1]
                if first[0] == second[0] != "block":
                    joined = (first[0], first[1], second[2])
                    found[self.like(one, other, answer, rows[:place] + [joined] + rows[place + 2:])] += 1
        self.assertGreater(found[False], 0)

    def test_sizes_and_figures_and_blocks_in_turn(self):
        one = flat({(1, 0): 1, (0, 0): 1})
        tens = [("sizes", 1 << (f - 1), (1 << f) - 1) for f in range(1, 10)]
        head = [("sizes", 0, 0)]
        for rows in (
            head + [("figures", 2, None)],
            head + tens[:1] + [("figures", 2, None)],
            head + tens[:1] + [("figures", 2, 5), ("sizes", 32, 40), ("sizes", 41, 63), ("figures", 7, None)],
            head + tens[:1] + [("figures", 2, 5), ("block", 6, 6), ("sizes", 64, 127), ("figures", 8, None)],
            head + tens[:1] + [("block", 2, 2), ("block", 3, 3), ("figures", 4, 4), ("figures", 5, None)],
            head + tens[:1] + [("figures", 2, HUGE), ("figures", HUGE + 1, None)],
            head + tens[:1] + [("figures", 2, HUGE), ("block", HUGE + 1, HUGE + 1), ("figures", HUGE + 2, None)],
            head + tens[:1] + [("figures", 2, HUGE), ("figures", HUGE + 2, None)],
            head + tens[:1] + [("figures", 2, HUGE), ("figures", HUGE, None)],
            head + tens[:1] + [("figures", 2, 5), ("sizes", 33, 63), ("figures", 7, None)],
            head + tens[:1] + [("figures", 2, 5), ("sizes", 32, 62), ("figures", 7, None)],
            head + tens[:1] + [("figures", 2, 5), ("sizes", 31, 63), ("figures", 7, None)],
            head + tens[:1] + [("figures", 2, 5), ("sizes", 32, 64), ("figures", 7, None)],
            head + tens[:1] + [("figures", 2, None), ("figures", 5, None)],
            head + tens[:1] + [("block", 2, 3), ("figures", 4, None)],
            head + tens[:1] + [("block", 2, None)],
            head + tens[:1] + [("sizes", 2, None)],
            head + tens,
            head + tens + [("figures", 10, None)],
        ):
            self.like(one, NONE, ("more", 0), rows)
        self.holds(one, NONE, ("more", 0), head + tens + [("figures", 10, None)], True)
        self.holds(one, NONE, ("more", 0), head + tens[:1] + [("figures", 2, HUGE), ("figures", HUGE + 1, None)], True)
        self.holds(one, NONE, ("more", 0), head + [("sizes", 1, 3), ("figures", 3, None)], False)

    def test_low_just_met_and_just_not(self):
        def ask(one, other, answer, head, low, wanted):
            rows = head + [("sizes", 1 << (low - 2), (1 << (low - 1)) - 1)] if low > 1 else head
            self.assertIs(self.like(one, other, answer, rows + [("figures", low, None)]), wanted, low)
            self.assertIs(self.like(one, other, answer, rows + [("block", low, low), ("figures", low + 1, None)]), wanted)
        blocks = [("sizes", 1 << (f - 1), (1 << f) - 1) for f in range(1, 40)]
        # The lesser terms: 7 is below 2^3, 8 is not.
        for share, least in ((1, 2), (3, 3), (4, 4), (7, 4), (8, 5)):
            for low in (least - 1, least):
                ask(flat({(1, 0): 1, (0, 0): share}), NONE, ("more", 0), [("sizes", 0, 0)] + blocks[:max(0, low - 2)],
                    low, low == least)
        # Twice the greatest power of d, of the lead's own, too.
        for terms, least in (({(1, 3): 1, (0, 0): 1}, 6), ({(0, 4): 1, (0, 0): 1}, 8)):
            for low in (least - 1, least):
                ask(flat(terms), NONE, ("more", 0), [("sizes", 0, 0)] + blocks[:low - 2], low, low == least)
        # More than the figures of the last stretch's first size.
        for since, least in ((8, 5), (15, 5), (16, 6), (7, 4)):
            one = oracle.sums((0, {(0, 0): 1}), (since, {(1, 0): 1}))
            for low in (least - 1, least):
                head = [("sizes", 0, 0)]
                for kind, first, last in blocks[:low - 1]:
                    head += [(kind, first, since - 1), (kind, since, last)] if first < since <= last else [
                        (kind, first, last)]
                wanted = low == least
                rows = head + [("figures", low, None)]
                self.assertIs(self.like(one, NONE, ("more", 0), rows), wanted, (since, low))

    def test_parts_are_made_whole_by_the_least_number(self):
        # 1/2 n + 1/3 is taken 6 times: its lesser term weighs 2. With 1/2 n + 1/2 it weighs 1.
        head = [("sizes", 0, 0), ("sizes", 1, 1)]
        for share, low in ((Fraction(1, 3), 3), (Fraction(1, 2), 2)):
            one = flat({(1, 0): Fraction(1, 2), (0, 0): share})
            for first in (2, 3):
                rows = head[:] if first == 2 else head + [("sizes", 2, 3)]
                self.holds(one, NONE, ("more", 0), rows + [("figures", first, None)], first >= low)
        # 1/6 less 1/2 is -1/3, and 3 times is enough.
        one, other = flat({(1, 0): Fraction(1, 6)}), flat({(1, 0): Fraction(1, 2), (0, 0): Fraction(1, 3)})
        self.holds(one, other, ("less", 0), head + [("figures", 2, None)], True)

    def test_a_row_over_two_stretches_or_figures(self):
        one = oracle.sums((0, {(0, 0): 1}), (5, {(0, 0): 1}))
        rows = [("sizes", 0, 0), ("sizes", 1, 1), ("sizes", 2, 3), ("sizes", 4, 4), ("sizes", 5, 7), ("figures", 4, None)]
        self.holds(one, NONE, ("more", 0), rows, True)
        self.holds(one, NONE, ("more", 0), rows[:3] + [("sizes", 4, 7)] + rows[5:], False)
        self.holds(one, NONE, ("more", 0), [("sizes", 0, 1)] + rows[2:], False)
        self.holds(one, NONE, ("more", 0), rows[:1] + [("sizes", 1, 3)] + rows[3:], False)

    def test_values_with_the_sign_at_both_ends_alone(self):
        # (n - 20)^2 - 1 is wrong from 19 to 21; at 16 and 31 it is right.
        one = flat({(2, 0): 1, (1, 0): -40, (0, 0): 399})
        tail = [("figures", 40, None)]
        blocks = [("sizes", 1 << (f - 1), (1 << f) - 1) for f in range(6, 40)]
        self.holds(one, NONE, ("more", 22), [("sizes", 22, 31)] + blocks + tail, True)
        self.holds(one, NONE, ("more", 21), [("sizes", 21, 31)] + blocks + tail, False)
        small = [("sizes", 0, 0), ("sizes", 1, 1), ("sizes", 2, 3), ("sizes", 4, 7), ("sizes", 8, 15)]
        self.holds(one, NONE, ("more", 0), small + [("sizes", 16, 31)] + blocks + tail, False)
        self.holds(one, NONE, ("more", 0), small + [("sizes", 16, 18), ("sizes", 19, 31)] + blocks + tail, False)
        self.holds(one, NONE, ("more", 0), small + [("sizes", 16, 18), ("sizes", 22, 31)] + blocks + tail, False)
        # Right throughout, but its first difference turns: one row is not enough, two are.
        one = flat({(2, 0): 1, (1, 0): -40, (0, 0): 401})
        self.holds(one, NONE, ("more", 0), small + [("sizes", 16, 31)] + blocks + tail, False)
        self.holds(one, NONE, ("more", 0), small + [("sizes", 16, 20), ("sizes", 21, 31)] + blocks + tail, True)
        self.holds(one, NONE, ("more", 0), small + [("sizes", 16, 19), ("sizes", 20, 31)] + blocks + tail, True)

    def test_the_lead_in_the_same_way(self):
        # (d - 20)^2 + 1: steady up to 20 and from 20 on, endless from 20 on, not from 19 on.
        one = flat({(1, 2): 1, (1, 1): -40, (1, 0): 401, (0, 0): 1})
        blocks = [("sizes", 0, 0)] + [("sizes", 1 << (f - 1), (1 << f) - 1) for f in range(1, 6)]
        for rows in (
            [("figures", 6, 20), ("figures", 21, None)],
            [("figures", 6, 19), ("figures", 20, None)],
            [("figures", 6, 18), ("figures", 19, None)],
            [("figures", 6, 25), ("figures", 26, None)],
            [("figures", 6, None)],
            [("figures", 6, 20), ("figures", 21, HUGE), ("figures", HUGE + 1, None)],
            [("figures", 6, 19), ("block", 20, 20), ("figures", 21, None)],
            [("block", 6, 6), ("figures", 7, 20), ("block", 21, 21), ("figures", 22, None)],
        ):
            self.like(one, NONE, ("more", 0), blocks + rows)
        self.holds(one, NONE, ("more", 0), blocks + [("figures", 6, 20), ("figures", 21, None)], True)
        self.holds(one, NONE, ("more", 0), blocks + [("figures", 6, None)], False)

    def test_each_difference_counts_for_a_lead_without_end(self):
        # Each of these has the sign at low, and one difference there that has not, the last one included.
        blocks = [("sizes", 0, 0)] + [("sizes", 1 << (f - 1), (1 << f) - 1) for f in range(1, 6)]
        for terms in ({1: -1, 0: 100}, {2: -1, 1: 100, 0: 1}, {3: -1, 2: 300, 0: 1}, {2: 1, 1: -50, 0: 900},
                      {3: 1, 2: -90, 1: 3000, 0: 1}, {0: 100, 1: 1}, {3: 1, 2: 1, 0: 1}):
            wanted = all(oracle.nth_difference(terms, nth, 6) >= 0 for nth in range(1, 4))
            one = flat({(0, q): share for q, share in terms.items()})
            self.assertIs(self.like(one, NONE, ("more", 0), blocks + [("figures", 6, None)]), wanted, terms)
            turned = flat({(0, q): -share for q, share in terms.items()})
            self.assertIs(self.like(turned, NONE, ("less", 0), blocks + [("figures", 6, None)]), wanted, terms)

    def test_blocks_where_the_lead_is_nought(self):
        word, size = compared(BLOCKS, NONE)
        rows = shown(BLOCKS, NONE)
        self.assertEqual((word, size), ("more", 1 << 11))
        self.assertIn(("block", 20, 20), rows)
        place = rows.index(("block", 20, 20))
        for wrong in (("figures", 20, 20), ("block", 20, 21), ("sizes", 1 << 19, (1 << 20) - 1)):
            changed = rows[:place] + [wrong] + rows[place + 1:]
            self.assertIs(self.like(BLOCKS, NONE, (word, size), changed), wrong[0] == "sizes")
        # With a lesser term of the other sign the block is wrong.
        other = flat({(2, 3): 1, (2, 2): -52, (2, 1): 880, (2, 0): -4800, (1, 0): -1})
        self.assertEqual(compared(other, NONE), ("more", 1 << 20))
        self.holds(other, NONE, (word, size), rows, False)


class TestVeryGreat(Shown):
    def test_low_and_high_of_hundreds_of_figures(self):
        for one, other, answer, rows in answers():
            for kind in ("sizes", "figures", "block", "alike", "more"):
                for low, high in ((HUGE, HUGE), (HUGE, HUGE + 5), (0, HUGE), (1, HUGE), (HUGE, None), (-HUGE, HUGE),
                                  (HUGE, 5), (-HUGE, None), (-HUGE, -HUGE)):
                    strange = (kind, low, high)
                    self.holds(one, other, answer, [strange], False)
                    self.holds(one, other, answer, rows + [strange], False)
                    self.holds(one, other, answer, rows[:-1] + [strange], False)

    def test_figures_up_to_very_great_ones(self):
        rows = [("figures", 10, HUGE), ("block", HUGE + 1, HUGE + 1), ("figures", HUGE + 2, HUGE * 9),
                ("figures", HUGE * 9 + 1, None)]
        self.holds(FIGURES, flat({(0, 0): 9}), ("more", 1 << 9), rows, True)
        self.holds(flat({(0, 0): 9}), FIGURES, ("less", 1 << 9), rows, True)
        great = flat({(9, 9): BIG, (8, 9): BIG, (0, 9): BIG})
        head = shown(great, NONE)[:-1]
        last = shown(great, NONE)[-1]
        rows = head + [("figures", last[1], HUGE), ("figures", HUGE + 1, None)]
        self.holds(great, NONE, compared(great, NONE), rows, True)

    def test_sizes_of_two_thousand_and_one_figures(self):
        other = flat({(0, 0): 2000})
        self.assertEqual(compared(FIGURES, other), ("more", 1 << 2000))
        self.holds(FIGURES, other, ("more", 1 << 2000), [("figures", 2001, None)], True)
        top = (1 << 2001) - 1
        self.holds(FIGURES, other, ("more", 1 << 2000), [("sizes", 1 << 2000, top), ("figures", 2002, None)], True)
        self.holds(FIGURES, other, ("more", 1 << 2000), [("sizes", 1 << 2000, top - 1), ("figures", 2002, None)], False)
        self.holds(FIGURES, other, ("more", (1 << 2000) + 1), [("figures", 2001, None)], False)
        self.holds(FIGURES, other, ("more", top), [("sizes", top, top), ("figures", 2002, None)], False)
        self.holds(FIGURES, other, ("more", top), [], False)
        self.holds(LINE, LINE, ("alike", top), [("alike", top, None)], False)
