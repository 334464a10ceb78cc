"""[21]: the desk's lines and answers."""

import inspect
import unittest

from outgrow.desk import Desk
from outgrow.shelf import Shelf
from outgrow.tables import sums_text
from tests.shelves import filled, quick, standing

TEXTS = {
    "line": "for i from 1 to n (step 1)",
    "two": "step 2",
    "sort": "call line with n; again 2 on halves",
    "odd": "if 1 <= n (if n <= 2 (step 1)); again 2 on halves",
    "top": "call line with n - 3; call two with 1",
    "wood": "for i from 1 to n (double (step 1))",
    "far": "for i from 1 to n (for j from 1 to 99 (for k from 1 to 99 (step 99)))",
}


class Desks(unittest.TestCase):
    def setUp(self):
        self.desk = Desk(shelf=filled(TEXTS, [("w", "line", "two")]))

    def says(self, *lines):
        """Pairs of a line and its answer."""
        for line, answer in lines:
            told = quick(self, lambda: self.desk.say(line))
            self.assertEqual(told, answer, line)
            self.assertIs(type(told), str)


class TestForms(Desks):
    def test_deeds(self):
        self.desk = Desk()
        self.says(
            ("names", "none"), ("labels", "none"), ("past", "0 0"), ("news", "none"),
            ("put a step 1", "done"), ("put b for i from 1 to n(step 2)", "done"), ("names", "a b"),
            ("text b", "for i from 1 to n (step 2)"), ("alter a step 2;step 5", "done"), ("text a", "step 2; step 5"),
            ("watch w a b", "done"), ("labels", "w"), ("pair w", "a b"), ("watch v b a", "done"), ("labels", "v w"),
            ("unwatch w", "done"), ("unwatch v", "done"), ("labels", "none"), ("drop a", "done"), ("names", "b"),
            ("past", "8 0"), ("undo", "done"), ("names", "a b"), ("past", "7 1"), ("redo", "done"), ("past", "8 0"),
            ("names", "b"),
        )

    def test_questions(self):
        self.says(
            ("names", "far line odd sort top two wood"), ("labels", "w"), ("past", "8 0"), ("leans top", "line two"),
            ("leans two", "none"), ("leans sort", "line"), ("pair w", "line two"), ("text top", TEXTS["top"]),
            ("sums line", "0: 1 n"), ("sums two", "0: 2"), ("sums wood", "0: 1 n d"), ("sums sort", "0: 1 n"),
            ("sums top", sums_text(self.desk.shelf.sums("top"))), ("growth line", "2 by 2, figures 0"),
            ("growth sort", "2 by 2, figures 1"), ("order line sort", "less"), ("order sort line", "more"),
            ("order top line", "alike"), ("against line two", "more 3"), ("against two line", "less 3"),
            ("against line line", "alike 0"), ("steps line 0", "0"), ("steps sort 8", "32"), ("walk sort 8", "32"),
            ("steps line 999999999999999999999999999999", "9" * 30), ("walk line 10", "10"), ("news", "none"),
        )
        self.desk.say("put none step 0")
        self.says(("growth none", "none"), ("sums none", "0: 0"))

    def test_sums_in_rows(self):
        self.says(("put rows if n <= 4 (for i from 1 to n (step 1)) else (double (step 3))", "done"),
                  ("sums rows", "0: 1 n | 5: 3 d"))

    def test_news(self):
        self.says(("watch x wood far", "done"), ("alter two for i from 1 to n (step 1)", "done"),
                  ("alter far call two with n", "done"), ("news", "w more 3 alike 0 | x Far 0 more 2"),
                  ("news", "none"), ("alter two step 1; again 1 on halves", "no Breaks"), ("undo", "done"),
                  ("undo", "done"), ("news", "w alike 0 more 3 | x more 2 Far 0"))

    def test_refusals(self):
        self.says(
            ("put A step 1", "no BadName"), ("put n step 1", "no BadName"), ("put abcdefghi step 1", "no BadName"),
            ("put line step 1", "no Taken"), ("put x step", "no BadText"), ("put x (", "no BadText"),
            ("put x call line with i", "no NoName"),
            ("put x for i from 1 to 2 (for i from 1 to 2 (step 1))", "no Twice"),
            ("put x again 2 on less", "no Misplaced"), ("put x call gone with n", "no NoPlan"),
            ("put x call x with n", "no Ring"), ("put x call sort with n", "no NotPlain"),
            ("put x call wood with n - 1", "no Tangled"), ("alter two again 1 on thirds", "no Breaks"),
            ("alter gone odd", "no NoPlan"), ("drop gone", "no NoPlan"), ("drop line", "no InUse"),
            ("watch W line two", "no BadName"), ("watch w line two", "no Taken"), ("watch v line gone", "no NoPlan"),
            ("unwatch v", "no NoLabel"), ("redo", "no NothingLeft"), ("leans gone", "no NoPlan"),
            ("pair v", "no NoLabel"), ("text gone", "no NoPlan"), ("sums gone", "no NoPlan"),
            ("growth gone", "no NoPlan"),
            ("growth odd", "no Uneven"), ("order odd line", "no Uneven"), ("order gone odd", "no NoPlan"),
            ("against line sort", "no NotPlain"), ("against wood far", "no Far"), ("against gone line", "no NoPlan"),
            ("steps gone 3", "no NoPlan"), ("walk gone 3", "no NoPlan"), ("walk line 5000", "no Weary"),
            ("walk line 999999999999999999999999999999", "no Weary"),
        )
        for turn in range(8):
            self.says(("undo", "done"))
        self.says(("undo", "no NothingLeft"), ("names", "none"), ("past", "0 8"))

    def test_full_and_heavy(self):
        for place in range(5):
            self.says((f"put {chr(97 + place)} step 1", "done"))
        self.says(("put more step 1", "no Full"))
        for place in range(11):
            self.says((f"watch {chr(97 + place)} line two", "done"))
        self.says(("watch more line two", "no Full"), ("watch more gone two", "no Full"))
        self.desk = Desk()
        self.says(("put a step 1", "done"), ("put b call a with n", "done"), ("put c call b with n", "done"),
                  ("put d call c with n", "done"), ("put e call d with n", "no Heavy"))

    def test_words_without_a_blank(self):
        self.says(("put a;b step 1", "no BadName"), ("drop 7", "no NoPlan"), ("pair a+b", "no NoLabel"),
                  ("watch ( ) <=", "no BadName"), ("order LINE line", "no NoPlan"), ("steps step 4", "no NoPlan"),
                  ("text names", "no NoPlan"), ("put x TEXT", "no BadText"), ("put x ~", "no BadText"))


class TestWhat(Desks):
    def test_odd_lines(self):
        before = standing(self.desk.shelf)
        for line in [
            "", " ", "  ", "odd", "what", "done", "none", "put", "put x", "alter two", "alter", "drop", "drop two two",
            "watch", "watch v", "watch v line", "watch v line two two", "unwatch", "unwatch w w", "undo undo", "undo 1",
            "redo now", "names all", "labels all", "past 1", "leans", "leans top two", "pair", "pair w w", "text",
            "text two two", "sums", "sums two two", "growth", "growth two two", "order", "order line",
            "order line two two", "against", "against line", "against line two two", "steps", "steps line",
            "steps line 3 3", "walk", "walk line", "walk line 3 most", "news w", "paper line two", "together",
            "twin", "worked", "Put x step 1", "PUT x step 1", "Names", "UNDO", "page", "len", "say names",
        ]:
            self.says((line, "what"))
        self.assertEqual(standing(self.desk.shelf), before)

    def test_blanks(self):
        before = standing(self.desk.shelf)
        for line in ("put x step 1", "alter two step 1", "drop wood", "watch v line two", "unwatch w", "undo", "names",
                     "labels", "past", "leans top", "pair w", "text top", "sums top", "growth top", "order line two",
                     "against line two", "steps line 3", "walk line 3", "news", "put x  odd"):
            doubled = [line[:at] + " " + line[at:] for at in range(len(line)) if line[at] == " "]
            for odd in [" " + line, line + " ", *doubled]:
                self.says((odd, "what"))
        self.assertEqual(standing(self.desk.shelf), before)

    def test_sizes(self):
        for size in ("00", "01", "007", "-1", "+1", "1.0", "1e3", "x", "0x1", "1_000", "1,000", "9" * 31, "0" * 30,
                     "1" + "0" * 30, "n", "True", "one", "-0"):
            for word in ("steps", "walk"):
                self.says((f"{word} line {size}", "what"), (f"{word} gone {size}", "what"))
        self.says(("steps line 0", "0"), ("steps line 10", "10"), ("steps two " + "9" * 30, "2"),
                  ("walk two " + "1" + "0" * 29, "2"))


class TestShelves(unittest.TestCase):
    def test_the_very_one_handed_in(self):
        for shelf in (Shelf(), filled(TEXTS)):
            self.assertIs(Desk(shelf=shelf).shelf, shelf)
        self.assertEqual(str(inspect.signature(Desk)), "(*, shelf=None)")

    def test_one_of_its_own(self):
        one, other = Desk(), Desk()
        self.assertIs(type(one.shelf), Shelf)
        self.assertIsNot(one.shelf, other.shelf)
        one.say("put a step 1")
        self.assertEqual((one.say("names"), other.say("names")), ("a", "none"))
        self.assertEqual(Desk(shelf=None).say("names"), "none")

    def test_two_desks_with_one_shelf(self):
        shelf = Shelf()
        one, other = Desk(shelf=shelf), Desk(shelf=shelf)
        one.say("put a step 1")
        self.assertEqual(other.say("put a step 1"), "no Taken")
        self.assertEqual(other.say("watch w a a"), "done")
        shelf.put("b", "step 2")
        self.assertEqual((one.say("labels"), one.say("names")), ("w", "a b"))
        other.say("undo")
        self.assertEqual((one.say("past"), shelf.names()), ("2 1", ["a"]))

    def test_the_deeds_of_the_desk_are_those_of_the_shelf(self):
        desk = Desk()
        shelf = Shelf()
        for name, text in TEXTS.items():
            self.assertEqual(desk.say(f"put {name} {text}"), "done")
            shelf.put(name, text)
        self.assertEqual(standing(desk.shelf), standing(shelf))
