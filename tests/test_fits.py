"""[3], [5], [8], [15]: what a plan is refused by when it is put or altered, alone and several at once."""

import unittest

from outgrow.errors import Refused
from outgrow.shelf import Shelf
from outgrow.texts import plan_text
from tests import oracle
from tests.shelves import filled, outcome, refused, unfit

TEXTS = {
    "line": "for i from 1 to n (step 1)",
    "wood": "double (step 1)",
    "woods": "call wood with n",
    "once": "call wood with 7",
    "half": "step 1; again 2 on halves",
    "third": "step 1; again 1 on thirds",
    "down": "step 1; again 1 on less",
    "top": "call line with n - 1",
}


class Putting(unittest.TestCase):
    def puts(self, text, word="told", texts=TEXTS, **fields):
        """Whether text, put as it, is refused so; the shelf stands as before."""
        shelf = filled(texts)
        if word == "told":
            shelf.put("it", text)
            self.assertEqual(shelf.names(), sorted([*texts, "it"]))
        else:
            refused(self, shelf, lambda: shelf.put("it", text), word, **fields)

    def alters(self, old, text, word="told", texts=TEXTS, **fields):
        shelf = filled(texts)
        if word == "told":
            self.assertIsNone(shelf.alter(old, text))
        else:
            refused(self, shelf, lambda: shelf.alter(old, text), word, **fields)


class TestBySelf(Putting):
    def test_bad_texts(self):
        for text, at in [("", 0), ("step", 4), ("step 100", 5), ("step 1;", 7), ("leap 1", 0), ("step 1 \n", 7),
                         ("step 1; again 0 on halves", 14), ("for n from 1 to 2 (step 1)", 4),
                         ("; ".join(["step 1"] * 13), 96), ("double (" * 5 + "step 1" + ")" * 5, 39)]:
            self.puts(text, "BadText", at=at)
            self.alters("top", text, "BadText", at=at)

    def test_names_and_agains(self):
        for text, word, fields in [
            ("if i <= 2 (step 1)", "NoName", {"name": "i"}),
            ("for i from i to 2 (step 1)", "NoName", {"name": "i"}),
            ("call line with k", "NoName", {"name": "k"}),
            ("for i from 1 to 2 (for i from k to 2 (step 1))", "Twice", {"name": "i"}),
            ("double (again 1 on halves)", "Misplaced", {}),
            ("again 1 on halves; again 1 on halves", "Misplaced", {}),
            ("again 2 on less", "Misplaced", {}),
        ]:
            self.puts(text, word, **fields)
            self.alters("top", text, word, **fields)

    def test_by_itself_goes_ahead_of_among_others(self):
        self.puts("call gone with n; call line with k", "NoName", name="k")
        self.puts("call it with n; again 2 on less", "Misplaced")
        self.puts("call half with n; step 1; step 100", "BadText", at=31)
        self.alters("line", "call top with n; double (again 1 on less)", "Misplaced")


class TestAmongOthers(Putting):
    def test_no_plan(self):
        self.puts("call gone with n", "NoPlan", name="gone")
        self.puts("call line with n; double (call far with 3); call away with n", "NoPlan", name="far")
        self.alters("top", "call line with n; if n <= 3 (step 1) else (call gone with 0)", "NoPlan", name="gone")

    def test_it_itself_is_there(self):
        self.puts("call it with n - 1", "Ring", name="it")
        self.puts("call it with 0; call gone with n", "NoPlan", name="gone")
        self.alters("line", "call line with 0", "Ring", name="line")

    def test_ring_through_others(self):
        self.alters("line", "call top with 0", "Ring", name="line")
        texts = {"a": "step 1", "b": "call a with n", "c": "call b with n", "d": "call c with n"}
        for name in texts:
            for other in texts:
                if name <= other:
                    self.alters(name, f"step 1; call {other} with 3", "Ring", texts=texts, name=name)

    def test_not_plain(self):
        self.puts("call half with n", "NotPlain", name="half")
        self.puts("call line with n; call third with 1; call half with n", "NotPlain", name="third")
        self.puts("call half with 0; again 2 on halves", "NotPlain", name="half")
        self.puts("call down with n; again 2 on halves")
        self.alters("top", "call down with n; call half with 5", "NotPlain", name="half")

    def test_tangled_by_less(self):
        self.puts("double (step 1); again 1 on less", "Tangled", name="it")
        self.puts("again 1 on less; for i from 1 to n (if i <= 2 (double (step 0)))", "Tangled", name="it")
        self.puts("call wood with n; again 1 on less", "Tangled", name="it")
        self.puts("call woods with n; again 1 on less", "Tangled", name="it")
        self.puts("call wood with 9; again 1 on less")
        self.puts("call once with n; again 1 on less")
        self.puts("double (step 1); again 1 on halves")
        self.alters("top", "double (step 1); again 1 on less", "Tangled", name="top")

    def test_tangled_by_a_call(self):
        for end in ("n - 1", "n + 1", "i", "i + 3"):
            text = f"for i from 1 to n (step 1; call {{}} with {end})"
            self.puts(text.format("wood"), "Tangled", name="wood")
            self.puts(text.format("woods"), "Tangled", name="woods")
            self.puts(text.format("once"))
            self.puts(text.format("down"))
        for end in ("n", "0", "99"):
            self.puts(f"for i from 1 to n (step 1; call wood with {end}; call woods with {end})")
        self.puts("call wood with n; call woods with n + 1; call wood with n - 1", "Tangled", name="woods")

    def test_tangled_by_less_goes_ahead_of_a_call(self):
        self.puts("call wood with n - 1; double (step 1); again 1 on less", "Tangled", name="it")
        self.puts("call wood with n - 1; again 1 on less", "Tangled", name="wood")

    def test_a_number_is_no_name_in_an_end(self):
        self.puts("call wood with 1; for i from 1 to 2 (call wood with i)", "Tangled", name="wood")

    def test_several_at_once(self):
        self.puts("call it with n; call half with n; call gone with n", "NoPlan", name="gone")
        self.puts("call half with n; call wood with n + 1; call it with n", "Ring", name="it")
        self.puts("call wood with n + 1; call third with n", "NotPlain", name="third")
        self.alters("line", "call top with n; call half with n; call wood with n - 2", "Ring", name="line")


def nested(many, leaf="step 1"):
    """A text of a weight of so many, at most 4, more than its leaf's."""
    text = leaf
    for name in "ijkl"[:many]:
        text = f"for {name} from 1 to n ({text})"
    return text


WEIGHTS = {"four": nested(4), "eight": nested(4, "call four with n"), "nine": nested(1, "call eight with n")}


class TestHeavy(Putting):
    def test_weights_of_nine_and_ten(self):
        two = {name: WEIGHTS[name] for name in ("four", "eight")}
        for text in (nested(1, "call eight with n"), "double (call eight with 3)", "call eight with n; again 1 on less",
                     "if n <= 5 (step 1) else (for i from 0 to 0 (call eight with i))",
                     "step 1; call eight with n; for i from 1 to n (call eight with 0)"):
            self.puts(text, texts=two)
        for text in (nested(2, "call eight with n"), "double (double (call eight with 3))",
                     nested(1, "call nine with 0"), "call nine with n - 3; again 1 on less",
                     "for i from 1 to 0 (call eight with i); again 1 on less",
                     "if n <= 5 (step 1) else (double (for i from 0 to 0 (call eight with i)))",
                     "if n <= 5 (double (call nine with n)) else (step 1)"):
            self.puts(text, "Heavy", texts=WEIGHTS)
        self.puts("if 1 <= 0 (call nine with n) else (call eight with n); again 9 on halves", texts=WEIGHTS)
        self.puts("call nine with n", texts=WEIGHTS)

    def test_an_if_weighs_nothing(self):
        texts = {"three": nested(3, "if n <= 1 (step 1)"), "seven": nested(4, "call three with n")}
        self.puts(nested(2, "call seven with n"), texts=texts)
        self.puts(nested(3, "call seven with n"), "Heavy", texts=texts)
        self.puts(nested(2, "if n <= 1 (step 1) else (call seven with n)"), texts=texts)

    def test_less_weighs_in_the_called_plan(self):
        texts = {**WEIGHTS, "lower": "call eight with n; again 1 on less"}
        self.puts("call lower with 5", texts=texts)
        self.puts("double (call lower with 5)", "Heavy", texts=texts)

    def test_chains_of_four_and_five(self):
        texts = {"a": "step 1", "b": "call a with n", "c": "call b with 1; call a with n"}
        self.puts("call a with n; call c with n; call b with n", texts=texts)
        texts["d"] = "if n <= 1 (call c with n)"
        self.puts("call d with 0", "Heavy", texts=texts)
        self.puts("call c with 0; call b with n; call a with n", texts=texts)

    def test_both_and_behind_all_else(self):
        texts = {**WEIGHTS, "last": "call nine with 0", "wood": "double (step 1)", "half": "again 1 on halves"}
        self.puts("call last with 0", "Heavy", texts=texts)
        self.puts("double (call last with 0)", "Heavy", texts=texts)
        self.puts("double (call last with 0); call wood with n - 1", "Tangled", texts=texts, name="wood")
        self.puts("double (call last with 0); call half with n - 1", "NotPlain", texts=texts, name="half")
        self.puts("double (call last with 0); again 1 on less", "Tangled", texts=texts, name="it")


class TestBreaks(Putting):
    def test_in_each_way(self):
        texts = {"it": "step 1", "q": "call it with n - 1", "p": "call it with n; again 1 on less", "r": "step 2"}
        self.alters("it", "step 1; again 1 on halves", "Breaks", texts=texts, name="p")
        self.alters("it", "step 1; again 9 on thirds", "Breaks", texts=texts, name="p")
        self.alters("it", "double (step 1)", "Breaks", texts=texts, name="p")
        self.alters("it", "call r with n; step 1; again 1 on less", texts=texts)
        del texts["p"]
        self.alters("it", "double (step 1)", "Breaks", texts=texts, name="q")

    def test_through_others(self):
        texts = {"it": "step 1", "z": "call it with n", "b": "call z with n - 1", "wood": "double (step 1)"}
        self.alters("it", "double (step 1)", "Breaks", texts=texts, name="b")
        self.alters("it", "call wood with n", "Breaks", texts=texts, name="b")
        self.alters("it", "call wood with 5", texts=texts)

    def test_heavy(self):
        texts = {**WEIGHTS, "alone": "step 1"}
        self.alters("four", "call alone with n", "Breaks", texts={**texts, "ten": "call nine with n"}, name="ten")
        self.alters("four", "step 1; call alone with n", texts=texts)
        self.alters("four", nested(4) + "; again 1 on less", "Breaks", texts=texts, name="nine")
        self.alters("eight", nested(4, "call four with n") + "; again 1 on less", "Breaks", texts=texts, name="nine")
        self.alters("eight", nested(3, "call four with n") + "; again 1 on less", texts=texts)

    def test_what_it_breaks_by_itself_goes_ahead(self):
        texts = {"it": "step 1", "q": "call it with n - 1", "half": "step 1; again 2 on halves"}
        self.alters("it", "call half with 0; double (step 1)", "NotPlain", texts=texts, name="half")
        self.alters("it", "call q with n; again 1 on halves", "Ring", texts=texts, name="it")
        self.alters("it", "double (step 1); again 1 on less", "Tangled", texts=texts, name="it")
        self.alters("it", "call gone with n; again 1 on halves", "NoPlan", texts=texts, name="gone")

    def test_its_callers_may_stay(self):
        shelf = filled(TEXTS)
        shelf.alter("line", "call down with n; call once with 4")
        self.assertEqual(shelf.leans("top"), ["down", "line", "once", "wood"])


class TestRandom(Putting):
    def test_random_plans_by_the_words_once_more(self):
        chance = oracle.seeded(8)
        seen = {}
        for turn in range(60):
            shelf, plans = Shelf(), {}
            for name in ("a", "b", "c", "d", "e", "f"):
                plan = oracle.random_plan(chance, list(plans) + [chance.choice("abcdefg")], 2)
                text = plan_text(plan)
                try:
                    wanted = unfit({**plans, name: plan}, name)
                    told = outcome(lambda: shelf.put(name, text))
                except RecursionError:
                    self.fail("a ring is not found")
                if told[0] not in ("BadText", "NoName", "Twice", "Misplaced"):
                    self.assertEqual(told, wanted or ("told", None), text)
                seen[told[0]] = seen.get(told[0], 0) + 1
                if told[0] == "told":
                    plans[name] = plan
            self.assertEqual(shelf.names(), sorted(plans))
        self.assertLessEqual({"told", "NoPlan", "Ring", "NotPlain", "Tangled"}, set(seen))

    def test_kinds_of_refusals(self):
        shelf = filled(TEXTS)
        with self.assertRaises(Refused):
            shelf.put("it", "call half with n")
        with self.assertRaises(ValueError):
            shelf.put("it", "call it with n")
