"""[20]: pages there and back, and what is no page."""

import unittest

from outgrow.errors import BadPage, Misread
from outgrow.pages import page, read_page
from outgrow.shelf import Shelf
from tests import oracle
from tests.shelves import filled, outcome, quick, standing

TEXTS = {
    "z": "step 1",
    "b": "for i from 1 to n - 1 (step 3)",
    "c": "call z with n; if n <= 5 (call b with 3) else (step 2)",
    "a": "call c with n + 1; again 2 on halves",
    "d": "call z with n; again 1 on less",
}

PAGE = """plan b for i from 1 to n - 1 (step 3)
plan z step 1
plan c call z with n; if n <= 5 (call b with 3) else (step 2)
plan d call z with n; again 1 on less
plan a call c with n + 1; again 2 on halves
watch a z b
watch v c d
watch w a a
"""

ROWS = PAGE.splitlines(keepends=True)


def shelf():
    return filled(TEXTS, [("w", "a", "a"), ("a", "z", "b"), ("v", "c", "d")])


class Pages(unittest.TestCase):
    def wrong(self, text, at):
        with self.assertRaises(BadPage, msg=text) as caught:
            read_page(text)
        self.assertEqual((caught.exception.at, caught.exception.word), (at, "BadPage"), text)
        self.assertIsInstance(caught.exception, Misread)


class TestPage(Pages):
    def test_written(self):
        self.assertEqual(page(shelf()), PAGE)
        self.assertEqual(page(Shelf()), "")

    def test_there_and_back(self):
        for turn in (shelf(), Shelf(), filled({"a": "step 1"})):
            before = standing(turn)
            other = read_page(page(turn))
            self.assertIs(type(other), Shelf)
            self.assertEqual(other, turn)
            self.assertEqual(page(other), page(turn))
            self.assertEqual((other.past(), other.news()), ((0, 0), []))
            self.assertEqual(standing(turn), before)
        other = read_page(PAGE)
        self.assertEqual((other.names(), other.labels()), (["a", "b", "c", "d", "z"], ["a", "v", "w"]))
        self.assertEqual(outcome(other.undo), ("NothingLeft", {}))
        other.alter("z", "step 2")
        self.assertEqual(other.past(), (1, 0))

    def test_histories_do_not_matter(self):
        other = filled({"q": "step 1", **TEXTS}, [("w", "a", "a"), ("a", "z", "b"), ("v", "q", "d")])
        other.together([("unwatch", "v"), ("drop", "q"), ("watch", "v", "c", "d")])
        self.assertEqual(page(other), PAGE)
        other.undo()
        self.assertNotEqual(page(other), PAGE)

    def test_twelve_of_each(self):
        chance = oracle.seeded(13)
        names = [chr(97 + place) for place in range(12)]
        texts = {name: "; ".join(["for i from 1 to n - 1 (for j from i + 9 to n (step 99))"] * 4) for name in names}
        full = filled(texts, [(label, chance.choice(names), chance.choice(names)) for label in names])
        text = page(full)
        other = quick(self, lambda: read_page(text))
        self.assertEqual((other, page(other)), (full, text))
        self.wrong(text + "watch z a a\n", 24)
        rows = text.splitlines(keepends=True)
        self.wrong("".join(rows[:12]) + "plan z step 1\n", 12)


class TestWrong(Pages):
    def test_a_row_out(self):
        # What leans on the row that is out is wrong first; one that nothing leans on may be out.
        without = {0: 1, 1: 1, 2: 3, 3: 5, 4: 6}
        for place, at in without.items():
            self.wrong("".join(ROWS[:place] + ROWS[place + 1:]), at)
        for place in (5, 6, 7):
            other = read_page("".join(ROWS[:place] + ROWS[place + 1:]))
            self.assertEqual(len(other.labels()), 2)

    def test_a_row_twice(self):
        for place, row in enumerate(ROWS):
            self.wrong("".join(ROWS[:place + 1] + [row] + ROWS[place + 1:]), place + 1)
            self.wrong(PAGE + row, len(ROWS))

    def test_rows_exchanged(self):
        for place in range(len(ROWS) - 1):
            rows = list(ROWS)
            rows[place:place + 2] = [ROWS[place + 1], ROWS[place]]
            # The row of c, put ahead of z, calls what is not there yet.
            self.wrong("".join(rows), 1 if place == 1 else place + 1)

    def test_a_row_put_in(self):
        for place in range(len(ROWS) + 1):
            for row in ("\n", "odd\n", " \n", "plan\n", "watch\n", "plan  step 1\n", "plan y\n", "plan y \n",
                        "watch y z\n", "plan y step\n", "plan Y step 1\n", "plan step step 1\n", "watch Y z b\n",
                        "watch y z b b\n", "watch y gone z\n", "watch y z gone\n", "plan y call gone with n\n", "plan y call y with n\n",
                        "Plan y step 1\n", "put y step 1\n", "plan y again 2 on less\n", "plan y step 100\n"):
                self.wrong("".join(ROWS[:place] + [row] + ROWS[place:]), place)

    def test_a_good_row_in_a_wrong_place(self):
        self.wrong("".join(ROWS[:2] + ["plan y step 1\n"] + ROWS[2:]), 2)
        self.wrong("".join(ROWS[:5] + ["plan y step 1\n"] + ROWS[5:]), 5)
        self.wrong(PAGE + "plan y step 1\n", 8)
        self.wrong(PAGE + "watch u a a\n", 8)
        read_page("".join(ROWS[:1] + ["plan y step 1\n"] + ROWS[1:]))
        read_page(PAGE + "watch x a a\n")

    def test_words_out_or_other(self):
        for place, row in enumerate(ROWS):
            words = row[:-1].split(" ")
            for at in range(len(words)):
                if row.startswith("plan") or at == 0:
                    out = " ".join(words[:at] + words[at + 1:])
                    if out != "plan z step":
                        self.wrong("".join(ROWS[:place] + [out + "\n"] + ROWS[place + 1:]), place)
                other = " ".join(words[:at] + ["Odd"] + words[at + 1:])
                self.wrong("".join(ROWS[:place] + [other + "\n"] + ROWS[place + 1:]), place)

    def test_blanks_more(self):
        for place, row in enumerate(ROWS):
            for at in [0, *[each for each, sign in enumerate(row) if sign == " "], len(row) - 1]:
                blank = row[:at] + " " + row[at:]
                self.wrong("".join(ROWS[:place] + [blank] + ROWS[place + 1:]), place)
        self.wrong("plan a step 1;step 2\n", 0)
        self.wrong("plan a for i from 1 to n(step 2)\n", 0)

    def test_line_feeds(self):
        self.wrong(PAGE[:-1], 7)
        self.wrong(PAGE + "\n", 8)
        self.wrong("\n", 0)
        self.wrong("\n" + PAGE, 0)
        self.wrong("plan a step 1", 0)
        self.wrong("plan a step 1\nplan b step 1", 1)
        self.wrong("odd\nplan b step 1", 0)
        self.wrong("plan a step 1\n\nplan b step 1\n", 1)
        for place, row in enumerate(ROWS[:-1]):
            self.wrong("".join(ROWS[:place] + [row[:-1]] + ROWS[place + 1:]), place)
        self.assertEqual(read_page(""), Shelf())

    def test_the_first_one(self):
        self.wrong("plan a step 1\nodd\nplan a step 1\n", 1)
        self.wrong("plan a step 1\nplan a step 1\nodd", 1)
