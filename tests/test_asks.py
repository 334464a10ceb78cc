"""[11] to [14], [18]: what a shelf is asked by names, and what it refuses to tell."""

import inspect
import unittest

from outgrow.bounds import MOST_VISITS
from outgrow.shelf import Shelf
from outgrow.tables import is_shown
from tests import oracle
from tests.shelves import filled, quick, refused

# text, growth; sorted by growth, the alike ones beside one another
GROWTHS = [
    ("step 0", None),
    ("if n <= 9 (step 1)", None),
    ("again 1 on less", None),
    ("again 5 on halves", None),
    ("step 0; again 9 on thirds", None),
    ("if n <= 0 (double (step 1)); again 2 on halves", None),
    ("for i from n to 0 (double (step 1)); again 1 on thirds", None),
    ("step 5", (1, 2, 0)),
    ("if n <= 5 (step 1); again 1 on halves", (1, 2, 0)),
    ("if n <= 5 (step 1); again 1 on thirds", (1, 2, 0)),
    ("double (step 1)", (1, 2, 1)),
    ("step 5; again 1 on halves", (1, 2, 1)),
    ("step 5; again 1 on thirds", (1, 2, 1)),
    ("double (double (step 1)); step 99", (1, 2, 2)),
    ("double (step 1); again 1 on halves", (1, 2, 2)),
    ("step 1; again 2 on thirds", (2, 3, 0)),
    ("if n <= 0 (step 1); again 2 on thirds", (2, 3, 0)),
    ("for i from 5 to n (step 1)", (2, 2, 0)),
    ("step 1; again 1 on less", (2, 2, 0)),
    ("for i from 1 to n (step 1); again 1 on halves", (2, 2, 0)),
    ("for i from 1 to n (step 1); again 2 on thirds", (2, 2, 0)),
    ("step 1; again 2 on halves", (2, 2, 0)),
    ("if n <= 5 (step 1); again 2 on halves", (2, 2, 0)),
    ("if n <= 5 (step 1); again 3 on thirds", (2, 2, 0)),
    ("for i from 1 to n (double (step 1)); double (double (step 1))", (2, 2, 1)),
    ("for i from 1 to n (step 1); again 2 on halves", (2, 2, 1)),
    ("for i from 1 to n (step 1); again 3 on thirds", (2, 2, 1)),
    ("double (for i from 1 to n (step 1)); again 2 on halves", (2, 2, 2)),
    ("for i from 1 to n (step 1); again 4 on thirds", (4, 3, 0)),
    ("for i from 1 to n (step 1); again 5 on thirds", (5, 3, 0)),
    ("for i from 1 to n (step 1); again 3 on halves", (3, 2, 0)),
    ("double (step 1); again 6 on thirds", (6, 3, 0)),
    ("for i from 1 to n (step 1); again 7 on thirds", (7, 3, 0)),
    ("step 1; again 8 on thirds", (8, 3, 0)),
    ("for i from 1 to n (for j from i to n (step 1))", (4, 2, 0)),
    ("for i from 1 to n (step 1); again 9 on thirds", (4, 2, 0)),
    ("step 1; again 4 on halves", (4, 2, 0)),
    ("for i from 1 to n (for j from i to n (step 1)); again 9 on thirds", (4, 2, 1)),
    ("for i from 1 to n (for j from i to n (step 1)); again 5 on halves", (5, 2, 0)),
    ("double (step 1); again 9 on halves", (9, 2, 0)),
]

UNEVEN = ("if 1 <= n (if n <= 5 (step 1)); again 2 on halves", "if 7 <= n (if n <= 7 (step 9)); again 9 on thirds",
          "if n <= 3 (for i from 1 to n (step 1)); again 1 on halves", "if n <= 3 (double (step 1)); again 1 on thirds")

NINE = "for i from 1 to n (for j from 1 to 20 (step 99); step {})"


class TestGrowth(unittest.TestCase):
    def test_each_case(self):
        for text, growth in GROWTHS:
            shelf = filled({"it": text})
            self.assertEqual(quick(self, lambda: shelf.growth("it")), growth, text)

    def test_of_calls(self):
        shelf = filled({"line": "for i from 1 to n (step 1)", "it": "for i from 1 to n (call line with i)",
                        "half": "call it with n; again 4 on halves",
                        "same": "call it with 9; double (call line with n)"})
        self.assertEqual([shelf.growth(name) for name in ("it", "half", "same")], [(4, 2, 0), (4, 2, 1), (2, 2, 1)])

    def test_uneven(self):
        for text in UNEVEN:
            shelf = filled({"it": text})
            refused(self, shelf, lambda: shelf.growth("it"), "Uneven", worked=1, name="it")
            refused(self, shelf, lambda: shelf.growth("it"), "Uneven", name="it")

    def test_the_same_in_another_shelf_with_just_these(self):
        for text in [text for text, growth in GROWTHS] + list(UNEVEN):
            alone = filled({"it": text, "upper": "step 1"})
            other = filled({"a": "double (step 1)", "b": "step 4", "it": "call b with n"}, [("w", "it", "a")])
            other.alter("it", text)
            other.put("c", "call b with n + 1")
            told = []
            for shelf in (alone, other):
                for name in shelf.names():
                    if name != "it":
                        shelf.growth(name)
                try:
                    told.append(shelf.growth("it"))
                except ValueError as error:
                    told.append((error.word, error.name))
            self.assertEqual(told[0], told[1], text)


class TestOrder(unittest.TestCase):
    def test_all_pairs(self):
        for place, (text, growth) in enumerate(GROWTHS):
            for behind, (more, greater) in enumerate(GROWTHS[place:]):
                shelf = filled({"one": text, "other": more})
                word = "alike" if growth == greater else "less"
                self.assertEqual(quick(self, lambda: shelf.order("one", "other")), word, (text, more))
                self.assertEqual(shelf.order("other", "one"), {"alike": "alike", "less": "more"}[word])

    def test_with_itself(self):
        self.assertEqual(filled({"it": "step 1"}).order("it", "it"), "alike")

    def test_refusals_in_their_order(self):
        shelf = filled({"odd": UNEVEN[0], "uneven": UNEVEN[1], "it": "step 1"})
        for one, other, word, name in [
            ("gone", "away", "NoPlan", "gone"), ("it", "away", "NoPlan", "away"), ("odd", "away", "NoPlan", "away"),
            ("gone", "odd", "NoPlan", "gone"),
        ]:
            refused(self, shelf, lambda: shelf.order(one, other), word, name=name)
        refused(self, shelf, lambda: shelf.order("odd", "uneven"), "Uneven", worked=1, name="odd")
        refused(self, shelf, lambda: shelf.order("it", "uneven"), "Uneven", worked=2, name="uneven")


class TestSteps(unittest.TestCase):
    def test_refusals_in_their_order(self):
        shelf = filled({"it": "for i from 1 to n (step 1)"})
        for ask in (shelf.steps, shelf.walk):
            for size in (-1, -10 ** 30, 10 ** 30, 10 ** 31, True, False):
                refused(self, shelf, lambda: ask("it", size), "BadNumber")
                refused(self, shelf, lambda: ask("gone", size), "NoPlan", name="gone")
            refused(self, shelf, lambda: ask("gone", 3), "NoPlan", name="gone")
            self.assertEqual((ask("it", 0), ask("it", 1)), (0, 1))
        self.assertEqual(shelf.steps("it", 10 ** 30 - 1), 10 ** 30 - 1)

    def test_walks(self):
        shelf = filled({"it": "step 1; for i from 1 to n (step 1)", "half": "call it with n; again 2 on halves"})
        self.assertEqual(shelf.walk("it", 4999), 5000)
        refused(self, shelf, lambda: shelf.walk("it", 5000), "Weary")
        refused(self, shelf, lambda: shelf.walk("it", 10 ** 30 - 1), "Weary")
        self.assertEqual(shelf.walk("it", 5000, most=10 ** 5), 5001)
        refused(self, shelf, lambda: shelf.walk("it", 3, most=7), "Weary")
        self.assertEqual(shelf.walk("it", 3, most=8), 4)
        refused(self, shelf, lambda: shelf.walk("it", True, most=0), "BadNumber")
        self.assertEqual(shelf.walk("half", 9), shelf.steps("half", 9))

    def test_kinds(self):
        self.assertEqual(str(inspect.signature(Shelf.walk)), "(self, name, size, *, most=10000)")
        self.assertEqual(MOST_VISITS, 10000)
        self.assertEqual(str(inspect.signature(Shelf)), "()")
        self.assertIs(type(filled({"it": "step 1"}).steps("it", 3)), int)


class Pairs(unittest.TestCase):
    def check(self, one, other, answer, more=None):
        """What two texts come to, with rows that show it, and the other way round."""
        shelf = filled({**(more or {}), "one": one, "other": other})
        turned = {"more": "less", "less": "more", "alike": "alike"}
        for first, second, wanted in (("one", "other", answer), ("other", "one", (turned[answer[0]], answer[1]))):
            self.assertEqual(quick(self, lambda: shelf.against(first, second)), wanted, (one, other))
            rows = quick(self, lambda: shelf.paper(first, second))
            sums = [shelf.sums(first), shelf.sums(second)]
            self.assertIs(is_shown(*sums, wanted, rows), True)
            self.assertTrue(oracle.shows(*sums, wanted, rows))
            if wanted[0] == "alike":
                self.assertEqual(rows, [("alike", wanted[1], None)])
            kept = list(rows)
            rows.clear()
            self.assertEqual(shelf.paper(first, second), kept)


class TestAgainst(Pairs):
    def test_more_and_less(self):
        self.check("step 2", "step 1", ("more", 0))
        self.check("for i from 1 to n (step 1)", "step 7", ("more", 8))
        self.check("for i from 1 to n (for j from 1 to n (step 1))", "for i from 1 to n (step 30)", ("more", 31))
        self.check("double (step 1)", "step 20", ("more", 2 ** 20))
        self.check("double (double (step 1))", "for i from 1 to n (step 1)", ("less", 37))
        self.check("if n <= 40 (step 5)", "step 1", ("less", 41))
        self.check("if n <= 5 (step 9) else (if n <= 80 (step 1) else (step 3))", "step 2", ("more", 81))

    def test_alike(self):
        self.check("step 2", "step 1; step 1", ("alike", 0))
        self.check("for i from 1 to n (step 1)", "if n <= 30 (step 3) else (for i from 1 to n (step 1))", ("alike", 31))
        self.check("if n <= 9 (double (step 1))", "step 0", ("alike", 10))
        self.check("for i from 1 to n (for j from i to n (step 1))",
                   "again 1 on less; for i from 1 to n (step 1)", ("alike", 0))
        self.check("for i from 7 to n (step 1)", "for i from 1 to n - 6 (step 1)", ("alike", 0))
        shelf = filled({"it": "for i from 2 to n (step 1)"})
        self.assertEqual(shelf.against("it", "it"), ("alike", 0))
        self.assertEqual(shelf.paper("it", "it"), [("alike", 0, None)])

    def test_crossings_at_great_sizes(self):
        self.check("for i from 1 to n (double (step 1))", "for i from 1 to n (step 50)", ("more", 2 ** 50))
        self.check("for i from 1 to n (double (step 1))", NINE.format(0), ("more", 2 ** 1980))
        self.check("for i from 1 to n (double (step 1))", NINE.format(19), ("more", 2 ** 1999))
        self.check("for i from 1 to n (double (step 1))", NINE.format(20), ("more", 2 ** 2000))
        self.check("for i from 1 to n (double (step 1)); step 1", NINE.format(20), ("more", 2 ** 1999))

    def test_far(self):
        great = "for i from 1 to n (for j from 1 to 99 (for k from 1 to 99 (for l from 1 to 99 (step 99))))"
        shelf = filled({"one": "for i from 1 to n (double (step 1))", "other": NINE.format(21), "great": great})
        for ask in (shelf.against, shelf.paper):
            for other in ("other", "great"):
                for pair in (("one", other), (other, "one")):
                    shelf.sums(other), shelf.sums("one")
                    refused(self, shelf, lambda: quick(self, lambda: ask(*pair)), "Far")

    def test_through_calls(self):
        base = {"line": "for i from 1 to n (step 1)", "odd": "if n <= 9 (step 50) else (call line with n - 9)"}
        two = "call line with n; call line with n"
        self.check("for i from 1 to n (call odd with i)", two, ("more", 1), more=base)
        self.check("call odd with n", "call line with n", ("less", 10), more=base)

    def test_random_pairs(self):
        chance = oracle.seeded(11)
        for turn in range(120):
            texts = [f"for i from {chance.randint(0, 9)} to n - {chance.randint(1, 9)} (step {chance.randint(0, 9)}; "
                     f"double (if i <= {chance.randint(0, 30)} (step {chance.randint(0, 9)}) else (step 1)))"
                     for side in range(2)]
            shelf = filled({"one": texts[0], "other": texts[1]})
            answer = shelf.against("one", "other")
            sums = [shelf.sums("one"), shelf.sums("other")]
            self.check(*texts, answer)
            if answer[1] < 300:
                self.assertEqual(oracle.gone_through(*sums, 600), answer)


class TestRefusals(unittest.TestCase):
    TEXTS = {"it": "step 1", "half": "step 1; again 1 on halves", "third": "again 9 on thirds",
             "lower": "step 1; again 1 on less"}

    def test_against_and_paper(self):
        shelf = filled(self.TEXTS)
        for ask in (shelf.against, shelf.paper):
            for one, other, word, name in [
                ("gone", "away", "NoPlan", "gone"), ("it", "away", "NoPlan", "away"),
                ("half", "away", "NoPlan", "away"),
                ("gone", "half", "NoPlan", "gone"), ("half", "third", "NotPlain", "half"),
                ("third", "half", "NotPlain", "third"), ("it", "third", "NotPlain", "third"),
                ("half", "it", "NotPlain", "half"), ("half", "half", "NotPlain", "half"),
            ]:
                refused(self, shelf, lambda: ask(one, other), word, name=name)
        self.assertEqual(shelf.against("it", "lower"), ("less", 1))

    def test_asked_by_one_name(self):
        shelf = filled(self.TEXTS, [("w", "it", "lower")])
        for ask in (shelf.text, shelf.leans, shelf.sums, shelf.growth):
            for name in ("gone", "", "w", "n", "It"):
                refused(self, shelf, lambda: ask(name), "NoPlan", name=name)
        for label in ("gone", "it", ""):
            refused(self, shelf, lambda: shelf.pair(label), "NoLabel", name=label)

    def test_names_texts_and_leans(self):
        shelf = filled({"b": "step  1;step 2", "a": "call b with n+1"})
        self.assertEqual(shelf.names(), ["a", "b"])
        self.assertEqual(shelf.text("b"), "step 1; step 2")
        self.assertEqual(shelf.text("a"), "call b with n + 1")
        shelf.put("c", "call a with 3; call a with 4")
        shelf.put("d", "call c with 1; call b with n")
        self.assertEqual([shelf.leans(name) for name in "abcd"], [["b"], [], ["a", "b"], ["a", "b", "c"]])
        for told in (shelf.names(), shelf.leans("d"), shelf.labels(), shelf.news()):
            told.append("odd")
        self.assertEqual((shelf.names(), shelf.leans("d")), (["a", "b", "c", "d"], ["a", "b", "c"]))
        self.assertEqual((shelf.labels(), shelf.news()), ([], []))

    def test_an_empty_shelf(self):
        shelf = Shelf()
        self.assertEqual((shelf.names(), shelf.labels(), shelf.news()), ([], [], []))
        self.assertEqual((shelf.past(), shelf.worked), ((0, 0), 0))
        self.assertEqual((len(shelf), repr(shelf)), (0, "Shelf(0 plans, 0 watched)"))
