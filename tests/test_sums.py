"""[6], [9], [18]: sums and steps of plans on a shelf, against walks and by identities at great sizes."""

import math
import unittest

from outgrow.errors import Refused, Weary
from outgrow.polynomials import POWER_SUMS, SUMS_TIMES, summed_up, value
from outgrow.shelf import Shelf
from outgrow.tables import sums_text, worth
from outgrow.texts import plan_text
from tests import oracle
from tests.shelves import filled, quick

GREAT = 10 ** 29

# Plans that are called by those that are tried.
BASE = {
    "one": "step 1",
    "line": "for i from 1 to n (step 2)",
    "odd": "if n <= 4 (step 7) else (for i from 3 to n (for j from i to n - 1 (step 1)))",
    "down": "call odd with n; again 1 on less",
    "wood": "double (step 1; for i from 2 to n (step 1))",
}

# text, and its sums as they are the only ones of a single row, or None
ALONE = [
    ("step 0", "0: 0"),
    ("step 7", "0: 7"),
    ("step 7; step 5", "0: 12"),
    ("for i from 1 to n (step 2)", "0: 2 n"),
    ("for i from 0 to n (step 1)", "0: 1 n + 1"),
    ("for i from 1 to n (for j from 1 to i (step 1))", "0: 1/2 n^2 + 1/2 n"),
    ("for i from 1 to n (for j from i + 1 to n (step 1))", "0: 1/2 n^2 + -1/2 n"),
    ("for i from 1 to n (for j from 1 to i (for k from 1 to j (step 6)))", "0: 1 n^3 + 3 n^2 + 2 n"),
    ("double (step 3)", "0: 3 d"),
    ("double (double (for i from 1 to n (step 1)); step 2)", "0: 1 n d^2 + 2 d"),
    ("step 5; again 1 on less", "0: 5 n + 5"),
    ("again 1 on less; for i from 1 to n (step 2)", "0: 1 n^2 + 1 n"),
    ("again 1 on less", "0: 0"),
    ("again 3 on halves; step 4", "0: 4"),
    ("again 9 on thirds", "0: 0"),
    ("if n <= n (step 1) else (step 2)", "0: 1"),
    ("if n + 1 <= n (step 1) else (step 2)", "0: 2"),
    ("if 3 <= 2 (step 1)", "0: 0"),
    ("for i from 5 to 9 (step 1)", "0: 5"),
    ("for i from 9 to 5 (step 1)", "0: 0"),
    ("for i from n to n + 3 (step 1)", "0: 4"),
    ("for i from n - 3 to n (step 1)", "0: 4"),
    ("for i from n to n - 1 (step 1)", "0: 0"),
    ("for i from 3 to n (step 1)", None),
    ("for i from n to 6 (step 1)", None),
    ("for i from n - 9 to 2 (step 1)", None),
    ("for i from n - 9 to 2 (if i <= 0 (step 1) else (step 10))", None),
    ("if n <= 5 (step 1) else (step 2)", None),
    ("if n - 3 <= 4 (for i from 2 to n (step 1)) else (double (step 5))", None),
    ("if 9 <= n (if n <= 12 (step 1))", None),
    ("for i from 1 to n (if i <= 5 (step 3) else (step 1))", None),
    ("for i from 2 to n (if n <= i + 4 (step 3) else (for j from i to 7 (step 1)))", None),
    ("for i from 1 to n (for j from i - 4 to n - 2 (for k from j to i + 3 (step 1)))", None),
    ("for i from n - 4 to 9 (for j from i - 4 to n - 2 (if j <= i (for k from j to 8 (step 1)) else (step 5)))", None),
    ("for i from 0 to n (for j from 0 to n (for k from i to j (for l from k to n - 3 (step 1))))", None),
    ("for i from 3 to n (for j from i to 9 (step 1)); again 1 on less", None),
    ("for i from 1 to n (for j from 1 to i (if j + 3 <= n (step 1))); again 1 on less", None),
    ("for i from 1 to n - 2 (double (for j from i to 7 (step 1); step 2)); again 2 on halves", None),
    ("if n <= 3 (step 9); again 3 on halves", None),
    ("if 1 <= n (step 9); again 4 on thirds; for i from 5 to n (step 1)", None),
    ("double (if n <= 6 (double (step 1)) else (for i from 4 to n (step 1))); again 1 on thirds", None),
]

# Texts with calls of the base.
CALLING = [
    "call one with n", "call line with n", "call odd with n", "call down with n", "call wood with n",
    "call line with 5", "call odd with 0", "call odd with 9", "call down with 12", "call wood with 37",
    "call line with n - 3", "call odd with n + 4", "call odd with n - 7", "call down with n - 2",
    "call down with n + 1",
    "for i from 1 to n (call odd with i)",
    "for i from n - 6 to n + 2 (call odd with i - 1; call line with i + 5)",
    "for i from 1 to n (for j from i to n (call odd with i; call odd with j; call line with n))",
    "for i from 1 to n (for j from i - 3 to 6 (call odd with j - 2; call down with 3; call odd with n - 5))",
    "for i from 2 to n (if i <= 5 (call odd with i) else (call line with i - 5; call down with n))",
    "for i from 0 to n (for j from i to n - 1 (for k from j to i + 4 (call odd with k; call line with j)))",
    "double (call odd with n - 1; call wood with n); for i from 3 to n (call wood with n; call wood with 6)",
    "if n <= 6 (call wood with n) else (call odd with 7)",
    "call odd with n - 2; again 1 on less",
    "for i from 1 to n (call line with i); again 1 on less",
    "call odd with n; call wood with n; again 2 on halves",
    "call down with n - 1; call wood with 5; again 5 on thirds",
]


def kinds_of(sums):
    return sums and isinstance(sums, list) and all(
        type(row) is tuple and type(row[0]) is int and type(row[1]) is list and all(
            type(term) is tuple and type(term[0]) is tuple and type(term[1]) is tuple
            and all(type(number) is int for pair in term for number in pair) for term in row[1]) for row in sums)


class Sums(unittest.TestCase):
    def check_form(self, sums):
        """[9]: the form of told sums."""
        self.assertTrue(kinds_of(sums), sums)
        self.assertEqual(sums[0][0], 0)
        self.assertEqual([row[0] for row in sums], sorted({row[0] for row in sums}))
        for since, terms in sums:
            powers = [term[0] for term in terms]
            self.assertEqual(powers, sorted(set(powers), reverse=True))
            for (power, figures), (over, under) in terms:
                self.assertTrue(0 <= power and 0 <= figures and power + figures <= 9)
                self.assertNotEqual(over, 0)
                self.assertGreaterEqual(under, 1)
                self.assertEqual(math.gcd(over, under), 1)

    def check_walks(self, shelf, name, sizes, most=200000):
        """Steps at sizes against the shelf's walk, and against the words once more where that does not take long."""
        sums = quick(self, lambda: shelf.sums(name))
        self.check_form(sums)
        text = shelf.text(name)
        plain = not text.endswith(("halves", "thirds")) and "halves;" not in text and "thirds;" not in text
        tried = 0
        for size in sizes:
            try:
                walked = shelf.walk(name, size, most=most)
            except Weary:
                continue
            told = shelf.steps(name, size)
            self.assertEqual(told, walked, (text, size))
            self.assertIs(type(told), int)
            if plain:
                self.assertEqual(worth(sums, size), (walked, 1), (text, size))
            tried += 1
        self.assertGreater(tried, 2, text)


class TestAgainstWalks(Sums):
    def test_plans_alone(self):
        for text, sums in ALONE:
            shelf = filled({"it": text})
            self.check_walks(shelf, "it", range(48))
            if sums is not None:
                self.assertEqual(sums_text(shelf.sums("it")), sums, text)

    def test_plans_that_call(self):
        for text in CALLING:
            self.check_walks(filled({**BASE, "it": text}), "it", range(40))

    def test_a_chain_of_four(self):
        shelf = filled({"a": "for i from 2 to n (step 1; if i <= 4 (step 2))",
                        "b": "for i from 1 to n (call a with i - 1; call a with n)",
                        "c": "call b with n - 2; if n <= 7 (call a with n + 3); again 1 on less",
                        "d": "for i from n - 5 to n (call c with i; call b with i + 1; double (call a with n))"})
        for name in shelf.names():
            self.check_walks(shelf, name, range(30))

    def test_random_plans(self):
        chance = oracle.seeded(9)
        tried = 0
        while tried < 120:
            shelf = Shelf()
            for name in ("low", "mid", "high", "top"):
                plan = oracle.random_plan(chance, shelf.names(), 4 if name == "low" else 3, again=0.4)
                try:
                    shelf.put(name, plan_text(plan))
                except Refused:
                    continue
                self.check_walks(shelf, name, range(26), most=6000)
                tried += 1

    def test_by_the_words_once_more(self):
        chance = oracle.seeded(10)
        for turn in range(60):
            shelf, plans = Shelf(), {}
            for name in ("low", "mid", "top"):
                plan = oracle.random_plan(chance, list(plans), 3, again=0.5)
                try:
                    shelf.put(name, plan_text(plan))
                except Refused:
                    continue
                plans[name] = plan
                for size in range(9):
                    self.assertEqual(shelf.steps(name, size), oracle.count(plans, name, size)[0], (plans, size))

    def test_ends_far_apart(self):
        for text in ("for i from n - 99 to 99 (if i + 99 <= 3 (step 1); step 2)",
                     "for i from 99 to n + 99 (step 1)",
                     "for i from n - 99 to n (for j from i - 99 to n - 99 (if j <= 0 (step 1)))",
                     "if n - 99 <= 99 (step 1); if n + 99 <= 99 (step 2)",
                     "for i from n to 99 (for j from i - 99 to 0 (step 1))"):
            self.check_walks(filled({"it": text}), "it", [*range(6), 50, *range(96, 104), *range(196, 202), 300])


class TestGreatSizes(Sums):
    """Identities at sizes of thirty figures, the least and the greatest of them too."""

    SIZES = (10 ** 29, 10 ** 29 + 7, 2 ** 98, 2 ** 98 - 1, 3 ** 62, 10 ** 30 - 100, 10 ** 30 - 2)

    def steps(self, shelf, name, size):
        return quick(self, lambda: shelf.steps(name, size))

    def test_a_going_grows_by_its_body(self):
        for body in BASE:
            if body != "wood":
                shelf = filled({**BASE, "it": f"for i from 1 to n (call {body} with i)",
                                "lower": f"call {body} with n; again 1 on less",
                                "up": f"for i from n - 7 to n + 50 (call {body} with i - 3)"})
                for size in self.SIZES[:-1]:
                    own = self.steps(shelf, body, size + 1)
                    self.assertEqual(self.steps(shelf, "it", size + 1) - self.steps(shelf, "it", size), own)
                    self.assertEqual(self.steps(shelf, "lower", size + 1) - self.steps(shelf, "lower", size), own)
                    more = self.steps(shelf, "up", size + 1) - self.steps(shelf, "up", size)
                    self.assertEqual(more, shelf.steps(body, size + 48) - shelf.steps(body, size - 10))

    def test_a_going_over_all_pairs(self):
        shelf = filled({**BASE, "it": "for i from 1 to n (for j from i to n (call odd with j; call odd with i))",
                        "row": "for i from 1 to n (call odd with i)", "same": "for i from 1 to n (call odd with n)"})
        for size in self.SIZES:
            # The pairs with the new size, each once, which has the new size's own steps each time.
            more = self.steps(shelf, "it", size + 1) - self.steps(shelf, "it", size)
            self.assertEqual(more, shelf.steps("row", size + 1) + shelf.steps("same", size + 1))

    def test_a_test_has_the_steps_of_the_body_that_is_due(self):
        shelf = filled({**BASE, "it": "if n <= 50 (call odd with n) else (call line with n)",
                        "turned": "if 51 <= n (call odd with n - 3) else (call line with n)",
                        "inner": "for i from 1 to n (if i <= 9 (call odd with i) else (call line with i))",
                        "nine": "for i from 1 to 9 (call odd with i)",
                        "rest": "for i from 10 to n (call line with i)"})
        for size in self.SIZES:
            self.assertEqual(self.steps(shelf, "it", size), shelf.steps("line", size))
            self.assertEqual(self.steps(shelf, "turned", size), shelf.steps("odd", size - 3))
            self.assertEqual(self.steps(shelf, "inner", size), shelf.steps("nine", size) + shelf.steps("rest", size))

    def test_a_doubled_plan_has_so_many_times_its_figures(self):
        shelf = filled({**BASE, "it": "double (call odd with n)", "two": "double (double (call odd with n; step 1))",
                        "woods": "for i from 1 to n (call wood with n)", "same": "call wood with 77"})
        for size in self.SIZES:
            figures = len(bin(size)) - 2
            own = self.steps(shelf, "odd", size)
            self.assertEqual(self.steps(shelf, "it", size), figures * own)
            self.assertEqual(self.steps(shelf, "two", size), figures ** 2 * (own + 1))
            self.assertEqual(self.steps(shelf, "wood", size), figures * size)
            self.assertEqual(self.steps(shelf, "woods", size), figures * size ** 2)
            self.assertEqual(self.steps(shelf, "same", size), 7 * 77)

    def test_a_called_plan_put_in(self):
        for end, shift in (("n", 0), ("n - 9", -9), ("n + 99", 99)):
            shelf = filled({**BASE, "it": f"call odd with {end}; call down with {end}"})
            for size in self.SIZES[:-2]:
                wanted = shelf.steps("odd", size + shift) + shelf.steps("down", size + shift)
                self.assertEqual(self.steps(shelf, "it", size), wanted)
        text = "for i from 3 to n (for j from i to n - 1 (step 1))"
        shelf = filled({"inner": text, "it": f"call inner with n; {text}"})
        for size in self.SIZES:
            self.assertEqual(self.steps(shelf, "it", size), 2 * shelf.steps("inner", size))

    def test_again_on_halves_and_thirds(self):
        for many in (1, 2, 9):
            for word, base in (("halves", 2), ("thirds", 3)):
                shelf = filled({**BASE, "it": f"call odd with n; again {many} on {word}"})
                for size in self.SIZES:
                    wanted = shelf.steps("odd", size) + many * shelf.steps("it", size // base)
                    self.assertEqual(self.steps(shelf, "it", size), wanted)
                self.assertEqual(shelf.steps("it", 0), shelf.steps("odd", 0))

    def test_known_counts(self):
        shelf = filled({"it": "for i from 1 to n (for j from 1 to i (for k from 1 to j (for l from 1 to k (step 1))))"})
        for size in self.SIZES:
            self.assertEqual(self.steps(shelf, "it", size), math.comb(size + 3, 4))
        self.assertEqual(sums_text(shelf.sums("it")), "0: 1/24 n^4 + 1/4 n^3 + 11/24 n^2 + 1/4 n")

    def test_a_weight_of_nine(self):
        texts = {"four": "for i from 1 to n (for j from 1 to i (for k from 1 to j (for l from 1 to k (step 1))))"}
        texts["eight"] = texts["four"].replace("step 1", "call four with l")
        texts["nine"] = "for i from 1 to n (call eight with i)"
        texts["lower"] = "call eight with n; again 1 on less"
        shelf = filled(texts)
        for size in self.SIZES:
            self.assertEqual(self.steps(shelf, "eight", size), math.comb(size + 7, 8))
            self.assertEqual(self.steps(shelf, "nine", size), math.comb(size + 8, 9))
            self.assertEqual(self.steps(shelf, "lower", size), math.comb(size + 8, 9))
        shelf = filled({"it": "double (double (double (double (step 1))))",
                        "seven": "double (double (double (call it with n)))",
                        "nine": "double (double (call seven with n))"})
        for size in self.SIZES:
            self.assertEqual(self.steps(shelf, "nine", size), size.bit_length() ** 9)


class TestTold(Sums):
    def test_told_twice_alike_and_new_each_time(self):
        shelf = filled({**BASE, "it": "for i from 3 to n (call odd with i - 2)"})
        first = shelf.sums("it")
        kept = [(since, list(terms)) for since, terms in first]
        self.assertEqual(shelf.sums("it"), first)
        for since, terms in first:
            terms.append(((99, 0), (1, 1)))
        first.pop()
        first.append("odd")
        self.assertEqual(shelf.sums("it"), kept)
        self.assertEqual(shelf.twin().sums("it"), kept)
        shelf.put("more", "call it with n")
        self.assertEqual(shelf.sums("more"), kept)

    def test_the_last_terms_are_just_those(self):
        for text, last in [
            ("for i from 7 to n (for j from i - 2 to n + 1 (step 1))", "1/2 n^2 + -5/2 n + -3"),
            ("if n <= 50 (step 3) else (for i from 1 to n - 50 (step 1))", "1 n + -50"),
            ("for i from 1 to n (if i <= 4 (step 5) else (double (step 1)))", "1 n d + -4 d + 20"),
        ]:
            shelf = filled({"it": text})
            self.assertEqual(sums_text(shelf.sums("it")).split(": ")[-1], last)

    def test_of_what_is_done_again_on_halves_all_else(self):
        texts = {"it": "for i from 3 to n (step 2); double (step 1)"}
        texts["half"] = texts["it"] + "; again 3 on halves"
        texts["third"] = "again 9 on thirds; " + texts["it"]
        shelf = filled(texts)
        self.assertEqual(shelf.sums("half"), shelf.sums("it"))
        self.assertEqual(shelf.sums("third"), shelf.sums("it"))

    def test_the_same_in_another_shelf(self):
        shelf = filled({"odd": BASE["odd"], "one": "step 1", "it": "for i from 1 to n (call odd with i + 5)"})
        other = filled({"odd": BASE["odd"], "it": "for i from 1 to n (call odd with i + 5)"})
        self.assertEqual(shelf.sums("it"), other.sums("it"))

    def test_rows_that_only_seem_to_be_others_fall_away(self):
        # Each of these comes to 0 in a row that a bound of its own would give terms.
        for text in ("if n <= 0 (double (step 1))", "if n <= 0 (for i from 1 to n (step 1))",
                     "for i from n to 0 (double (step 3))", "for i from 1 to 0 (step 1)"):
            self.assertEqual(filled({"it": text}).sums("it"), [(0, [])], text)


class TestPowerSums(unittest.TestCase):
    def test_each_power(self):
        for exponent, sums in enumerate(POWER_SUMS):
            for number in range(12):
                wanted = sum(each ** exponent for each in range(1, number + 1))
                self.assertEqual(value(sums, number), SUMS_TIMES * wanted)

    def test_summed_up(self):
        polynomial = [5 * SUMS_TIMES, -3 * SUMS_TIMES, 0, 2 * SUMS_TIMES]
        for number in range(-5, 6):
            more = value(summed_up(polynomial), number) - value(summed_up(polynomial), number - 1)
            self.assertEqual(more, value(polynomial, number))
        self.assertEqual(summed_up([]), [])
