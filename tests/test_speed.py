"""Each question is answered within a second, also of great plans, long chains and great sizes."""

import unittest

from outgrow.errors import Refused
from outgrow.pages import page, read_page
from outgrow.shelf import Shelf
from outgrow.tables import is_shown
from outgrow.texts import plan_text
from tests import oracle
from tests.shelves import filled, quick

GREATEST = 10 ** 30 - 1


def calls(name, ends):
    return "; ".join(f"call {name} with {end}" for end in ends)


def many_rows():
    """A chain of four plans, whose sums have hundreds of rows."""
    ends = [f"n {'+-'[place % 2]} {place * 8 + 1}" for place in range(12)]
    other = [f"n {'-+'[place % 2]} {place * 7 + 3}" for place in range(12)]
    inner = ["i - 99", "j + 99", "k", "l - 50", "n", "i + 3", "l + 7", "k - 50"]
    deep = "for i from {} to {} (for j from i - 99 to {} (for k from j - 71 to {} (for l from j - 99 to {} ({}))))"
    return {
        "a": "; ".join(f"if n <= {place * 17 + 3} (step {place + 1})" for place in range(6)),
        "b": calls("a", ends),
        "c": calls("b", other),
        "d": deep.format("n - 50", "n + 99", "n + 42", "i + 31", "k + 99", calls("c", inner)),
        "e": deep.format("n - 50", "n + 99", "42", "31", "99", calls("c", inner)),
        "f": "for i from 1 to n (call c with i - 99; for j from i - 99 to n (call c with j; for k from i to j + 5 "
             "(call c with k; for l from k to n (call c with l; call c with i; call c with j; call c with k; "
             "call c with n))))",
    }


def great_powers():
    """A chain of four plans of the greatest weight, with figures and bounds far apart."""
    four = "for i from 50 to n + 3 (for j from i - 99 to 70 (for k from j to n - 7 (for l from k - 9 to i (step 9))))"
    return {
        "a": four,
        "b": "for i from 1 to n (for j from i - 60 to n + 60 (for k from 3 to j - 50 (call a with i - 9; call a with j; "
             "call a with k + 40; if k <= 77 (call a with 88) else (call a with n))))",
        "c": "for i from n - 99 to n + 99 (call b with i - 99; call b with i + 50; if i <= 50 (call b with n) else "
             "(call b with n - 77; call a with i)); again 1 on less",
        "d": "double (call b with n - 1; call b with n + 99; for i from 1 to n (step 5; call b with i))",
        "e": "call c with n - 5; call c with n + 50; call b with 99; call c with 77",
        "f": "double (double (double (double (step 99))))",
        "g": "double (double (double (for i from 1 to n (step 99); call f with n)))",
        "h": "for i from 1 to 99 (for j from 1 to n (call g with n))",
    }


class Quick(unittest.TestCase):
    def check(self, texts):
        """Every question about each plan and each pair of plans."""
        shelf = filled(texts)
        for name in texts:
            quick(self, lambda: shelf.sums(name))
            quick(self, lambda: shelf.growth(name))
            for size in (0, 1, 99, 2 ** 99, 3 ** 60, GREATEST):
                quick(self, lambda: shelf.steps(name, size))
                try:
                    walked = quick(self, lambda: shelf.walk(name, size))
                    self.assertEqual(walked, shelf.steps(name, size))
                except Refused:
                    pass
        for one in texts:
            for other in texts:
                self.check_pair(shelf, one, other)
        for place, one in enumerate(list(texts) * 2):
            shelf.watch("abcdefghijkl"[place], one, sorted(texts)[place % 5])
            if place == 11:
                break
        shelf.alter("a", "if n <= 77 (step 1)")
        quick(self, shelf.news)
        quick(self, shelf.undo)
        written = quick(self, lambda: page(shelf))
        self.assertEqual(quick(self, lambda: read_page(written)), shelf)

    def check_pair(self, shelf, one, other):
        quick(self, lambda: shelf.order(one, other))
        try:
            answer = quick(self, lambda: shelf.against(one, other))
            rows = quick(self, lambda: shelf.paper(one, other))
        except Refused:
            return
        sums = [shelf.sums(one), shelf.sums(other)]
        self.assertTrue(quick(self, lambda: is_shown(*sums, answer, rows)))


class TestGreatPlans(Quick):
    def test_many_rows(self):
        self.check(many_rows())

    def test_great_powers(self):
        self.check(great_powers())

    def test_the_whole_chain_at_once(self):
        for texts in (many_rows(), great_powers()):
            for name in texts:
                shelf = filled(texts)
                quick(self, lambda: shelf.sums(name))

    def test_great_sizes_again(self):
        for text in ("for i from 1 to n (for j from i - 99 to n (double (step 99))); again 9 on halves",
                     "for i from 3 to n (step 1); again 1 on thirds", "step 1; again 1 on less"):
            shelf = filled({"it": text})
            quick(self, lambda: shelf.steps("it", GREATEST))

    def test_random_great_plans(self):
        chance = oracle.seeded(14)
        for turn in range(40):
            shelf = Shelf()
            for name in ("a", "b", "c", "d"):
                plan = self.great_plan(chance, shelf.names()[-1:])
                try:
                    shelf.put(name, plan_text(plan))
                except Refused:
                    continue
                sums = quick(self, lambda: shelf.sums(name))
                quick(self, lambda: shelf.steps(name, GREATEST))
                self.assertEqual(sums, filled({each: shelf.text(each) for each in shelf.names()}).sums(name))
                for size in (0, 1, 3, 7):
                    try:
                        self.assertEqual(shelf.walk(name, size, most=20000), shelf.steps(name, size))
                    except Refused:
                        pass

    def great_plan(self, chance, names):
        """Four brackets deep or one, twelve things, ends far apart."""
        def end(around):
            name = chance.choice(["", "n", *around, *around])
            return (name, chance.randint(0, 99) if name == "" else chance.choice([0, chance.randint(-99, 99)]))

        def leaf(around):
            if names and chance.random() < 0.8:
                return ("call", chance.choice(names), end(around))
            return ("step", chance.randint(1, 99))
        if chance.random() < 0.5:
            return tuple(leaf([]) for place in range(8)) + tuple(
                ("if", end([]), end([]), (leaf([]),), ()) for place in range(2))
        around = ["i", "j", "k", "l"][:chance.randint(1, 4)]
        body = tuple(leaf(around) for place in range(6))
        for place in reversed(range(len(around))):
            outer = around[:place]
            body = (("for", around[place], end(outer), end(outer), body), leaf(outer))
        return body[:1] + (("again", 1, "less"),)
