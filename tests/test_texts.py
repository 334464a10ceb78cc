"""[1], [3], [4]: plans read from texts and written as texts."""

import unittest

from outgrow.errors import BadText
from outgrow.texts import plan_text, read_plan

STEP = ("step", 1)

# Each text as it is written, and its plan.
WRITTEN = [
    ("step 3", (("step", 3),)),
    ("step 0", (("step", 0),)),
    ("step 99", (("step", 99),)),
    ("for i from 1 to n - 1 (step 1)", (("for", "i", ("", 1), ("n", -1), (STEP,)),)),
    ("for i from 0 to 99 (step 1)", (("for", "i", ("", 0), ("", 99), (STEP,)),)),
    ("for abcdefgh from n to n (step 1)", (("for", "abcdefgh", ("n", 0), ("n", 0), (STEP,)),)),
    ("for i from j + 1 to k - 99 (step 1)", (("for", "i", ("j", 1), ("k", -99), (STEP,)),)),
    ("for i from n + 99 to j (step 1)", (("for", "i", ("n", 99), ("j", 0), (STEP,)),)),
    ("if i <= 5 (step 1)", (("if", ("i", 0), ("", 5), (STEP,), ()),)),
    ("if i <= 5 (step 1) else (step 2)", (("if", ("i", 0), ("", 5), (STEP,), (("step", 2),)),)),
    ("if 0 <= n - 9 (step 1); step 2", (("if", ("", 0), ("n", -9), (STEP,), ()), ("step", 2))),
    ("double (step 1)", (("double", (STEP,)),)),
    ("double (step 1; double (step 1)); step 1", (("double", (STEP, ("double", (STEP,)))), STEP)),
    ("call scan with i + 1", (("call", "scan", ("i", 1)),)),
    ("call scan with 7", (("call", "scan", ("", 7)),)),
    ("call scan with n", (("call", "scan", ("n", 0)),)),
    ("again 2 on halves", (("again", 2, "halves"),)),
    ("again 2 on thirds", (("again", 2, "thirds"),)),
    ("again 1 on less", (("again", 1, "less"),)),
    ("again 1 on halves; again 9 on thirds", (("again", 1, "halves"), ("again", 9, "thirds"))),
    # A number above 1 with `less` is readable: it is refused as Misplaced, not as BadText.
    ("again 9 on less", (("again", 9, "less"),)),
    (
        "step 1; for i from 1 to n (if i <= 3 (call scan with i) else (double (step 2; step 3))); again 2 on halves",
        (
            STEP,
            ("for", "i", ("", 1), ("n", 0), (
                ("if", ("i", 0), ("", 3), (("call", "scan", ("i", 0)),), (
                    ("double", (("step", 2), ("step", 3))),
                )),
            )),
            ("again", 2, "halves"),
        ),
    ),
]

TWELVE = "; ".join(["step 1"] * 12)
FOUR_DEEP = "double (double (double (double (step 1))))"

SIGNS = [
    "step", "for", "from", "to", "if", "else", "double", "call", "with", "again", "on", "halves", "thirds", "less",
    "n", "i", "0", "1", "10", "(", ")", ";", "<=", "+", "-",
]


def spaced(text):
    """The signs of a written text, as a list."""
    for sign in "();":
        text = text.replace(sign, f" {sign} ")
    return text.split()


def tight(signs):
    """A text of these signs with blanks only where two words or two numbers would run together."""
    text = ""
    for sign in signs:
        same = text and (text[-1].isalpha() and sign.isalpha() or text[-1].isdigit() and sign.isdigit())
        text += " " + sign if same else sign
    return text


class Texts(unittest.TestCase):
    def wrong(self, text, at):
        with self.assertRaises(BadText, msg=repr(text)) as caught:
            read_plan(text)
        self.assertEqual(caught.exception.at, at, repr(text))

    def at_of(self, text):
        """Where a text is wrong, None where it is a plan."""
        try:
            read_plan(text)
        except BadText as error:
            return error.at
        return None


class TestReadAndWritten(Texts):
    def test_read(self):
        for text, plan in WRITTEN:
            self.assertEqual(read_plan(text), plan, text)

    def test_written(self):
        for text, plan in WRITTEN:
            self.assertEqual(plan_text(plan), text)

    def test_read_again_and_written_again(self):
        for text, plan in WRITTEN:
            self.assertEqual(plan_text(read_plan(plan_text(plan))), text)
            self.assertEqual(read_plan(plan_text(read_plan(text))), plan)

    def test_all_is_of_tuples_texts_and_numbers(self):
        def check(value):
            self.assertIn(type(value), (tuple, str, int))
            if type(value) is tuple:
                for item in value:
                    check(item)
        for text, plan in WRITTEN:
            check(read_plan(text))
            self.assertIs(type(plan_text(plan)), str)

    def test_every_number_of_a_step_and_of_ends(self):
        for number in range(100):
            self.assertEqual(read_plan(f"step {number}"), (("step", number),))
            self.assertEqual(read_plan(f"call scan with {number}"), (("call", "scan", ("", number)),))
            if number > 0:
                for name in ("n", "i"):
                    self.assertEqual(read_plan(f"call scan with {name} + {number}"), (("call", "scan", (name, number)),))
                    self.assertEqual(read_plan(f"call scan with {name} - {number}"), (("call", "scan", (name, -number)),))

    def test_every_number_of_again(self):
        for number in range(1, 10):
            for word in ("halves", "thirds", "less"):
                self.assertEqual(read_plan(f"again {number} on {word}"), (("again", number, word),))

    def test_what_is_handed_in_is_not_changed(self):
        plan = (("if", ("i", 0), ("", 5), (STEP,), (STEP,)),)
        again = (("if", ("i", 0), ("", 5), (STEP,), (STEP,)),)
        plan_text(plan)
        self.assertEqual(plan, again)


class TestBlanks(Texts):
    def test_none_where_none_are_needed(self):
        self.assertEqual(tight(spaced("for i from 1 to n - 1 (step 3)")), "for i from1to n-1(step3)")
        for text, plan in WRITTEN:
            self.assertEqual(read_plan(tight(spaced(text))), plan, text)

    def test_many(self):
        for text, plan in WRITTEN:
            self.assertEqual(read_plan("   ".join(spaced(text))), plan, text)

    def test_ahead_and_behind(self):
        for text, plan in WRITTEN:
            for ahead, behind in ((" ", ""), ("", " "), ("    ", "     ")):
                self.assertEqual(read_plan(ahead + text + behind), plan)

    def test_no_blank_within_a_sign(self):
        self.wrong("if n < = 5 (step 1)", 5)
        self.wrong("st ep 1", 0)
        self.wrong("step 1 2", 7)
        self.wrong("fori from 1 to n (step 1)", 0)
        self.wrong("for i from 1 ton (step 1)", 13)


class TestBounds(Texts):
    def test_twelve_things(self):
        self.assertEqual(read_plan(TWELVE), (STEP,) * 12)
        self.wrong(TWELVE + "; step 1", len(TWELVE) + 2)
        self.wrong(TWELVE + ";;", len(TWELVE) + 1)
        self.wrong(TWELVE + "; ", len(TWELVE) + 2)

    def test_things_in_brackets_count(self):
        eleven = "; ".join(["step 1"] * 11)
        self.assertEqual(read_plan(f"double ({eleven})"), (("double", (STEP,) * 11),))
        self.wrong(f"double ({eleven}); step 1", len(f"double ({eleven}); "))
        self.wrong(f"double ({eleven}; step 1)", len(f"double ({eleven}; "))
        self.wrong(f"{eleven}; double (step 1)", len(f"{eleven}; double ("))
        self.wrong(f"{eleven}; for i from 1 to n (again 1 on less)", len(f"{eleven}; for i from 1 to n ("))
        nine = "; ".join(["step 1"] * 9)
        self.assertEqual(len(read_plan(f"if n <= 1 (step 1) else (step 1); {nine}")), 10)
        self.wrong(f"{nine}; if n <= 1 (step 1) else (step 1; step 1)", len(f"{nine}; if n <= 1 (step 1) else (step 1; "))

    def test_four_brackets(self):
        self.assertEqual(read_plan(FOUR_DEEP), (("double", (("double", (("double", (("double", (STEP,)),)),)),)),))
        deep = "double (" * 4
        self.wrong(deep + "double (step 1)))))", len(deep + "double "))
        self.wrong(deep + "for i from 1 to n (step 1)))))", len(deep + "for i from 1 to n "))
        self.wrong(deep + "if n <= 1 (step 1)))))", len(deep + "if n <= 1 "))
        self.wrong(deep + "double ", len(deep + "double "))
        self.wrong(deep + "double step 1", len(deep + "double "))

    def test_each_kind_of_bracket_counts(self):
        for text in ("for i from 1 to n (", "if n <= 1 (", "if n <= 1 (step 1) else (", "double ("):
            self.assertIsNone(self.at_of(text * 4 + "step 1" + ")" * 4))
            self.wrong(text * 4 + "double (step 1)" + ")" * 4, len(text * 4 + "double "))

    def test_brackets_that_are_closed_do_not_count(self):
        self.assertEqual(len(read_plan("double (step 1); " * 5 + "step 1")), 6)
        self.assertIsNone(self.at_of("double (double (double (double (step 1)); double (step 1))); " + FOUR_DEEP))

    def test_numbers_beyond_their_bounds(self):
        self.wrong("again 0 on halves", 6)
        self.wrong("again 10 on thirds", 6)
        self.wrong("again 99 on less", 6)
        self.wrong("again 0 on less", 6)
        self.wrong("call scan with n + 0", 19)
        self.wrong("call scan with i - 0", 19)
        self.wrong("for i from n+0 to n (step 1)", 13)
        self.wrong("if n <= i-0 (step 1)", 10)

    def test_written_beyond_bounds_is_no_error(self):
        self.assertEqual(plan_text((STEP,) * 13), TWELVE + "; step 1")


class TestWrong(Texts):
    def test_more_is_wanted_at_each_place(self):
        for text, plan in WRITTEN:
            signs = spaced(text)
            for many in range(len(signs)):
                short = " ".join(signs[:many])
                for blanks in ("", " ", "    "):
                    self.assertIn(self.at_of(short + blanks), (None, len(short + blanks)), short)

    def test_more_is_wanted(self):
        for text in (
            "", " ", "     ", "step", "step ", "step 1;", "step 1; ", "for", "for i", "for i from", "for i from 1",
            "for i from n +", "for i from 1 to", "for i from 1 to n", "for i from 1 to n -", "for i from 1 to n (",
            "for i from 1 to n (step 1", "for i from 1 to n (step 1;", "if", "if n", "if n -", "if n <=", "if n <= 1",
            "if n <= 1 (", "if n <= 1 (step 1", "if n <= 1 (step 1) else", "if n <= 1 (step 1) else (",
            "if n <= 1 (step 1) else (step 1", "double", "double (", "double (step 1", "double (double (step 1)",
            "call", "call scan", "call scan with", "call scan with i +", "again", "again 2", "again 2 on",
        ):
            self.wrong(text, len(text))

    def test_no_sign_at_all(self):
        self.wrong("\n", 0)
        self.wrong("step 1\n", 6)
        self.wrong("step\n1", 4)
        self.wrong("step 1;\nstep 2", 7)
        self.wrong("Step 1", 0)
        self.wrong("stEp 1", 2)
        self.wrong("call scan with N", 15)
        for sign in "!\"#$&'*,./:=>?@[\\]^_`{|}~ABCXYZ<":
            self.wrong("step 1 " + sign, 7)
            self.wrong(sign + "step 1", 0)
            self.wrong("step" + sign + "1", 4)
        self.wrong("step 1.5", 6)

    def test_less_without_like(self):
        self.wrong("if n < 5 (step 1)", 5)
        self.wrong("if n <", 5)
        self.wrong("if n << 5 (step 1)", 5)
        self.wrong("if n =< 5 (step 1)", 5)
        self.wrong("if n <== 5 (step 1)", 7)
        self.wrong("if n >= 5 (step 1)", 5)

    def test_numbers_that_are_no_signs(self):
        for number in ("100", "999", "1000", "00", "01", "09", "000", "007", "1" * 900):
            self.wrong(f"step {number}", 5)
            self.wrong(f"again {number} on halves", 6)
            self.wrong(f"call scan with n + {number}", 19)
            self.wrong(f"step {number}x", 5)

    def test_long_words(self):
        self.wrong("abcdefghi", 0)
        self.wrong("call abcdefghi with n", 5)
        self.wrong("call abcdefgh with abcdefghi", 19)
        self.wrong("for i from 1 to abcdefghijkl (step 1)", 16)
        self.wrong("stepsteps 1", 0)

    def test_what_is_no_sign_goes_ahead(self):
        self.wrong("foo 1; step 1\n", 13)
        self.wrong("else X", 5)
        self.wrong("; step 100", 7)
        self.wrong("step 1 1 1 01", 11)
        self.wrong(") n < 1", 4)
        self.wrong("again 0 on abcdefghi", 11)
        self.wrong(TWELVE + "; step 1 !", len(TWELVE) + 9)
        self.wrong(" " + FOUR_DEEP + " step 1 step 007 ?", len(FOUR_DEEP) + 14)

    def test_the_first_of_those_goes(self):
        self.wrong("foo A B", 4)
        self.wrong("step 100 abcdefghi", 5)
        self.wrong("abcdefghi 100", 0)
        self.wrong("\n < A", 0)
        self.wrong("< \n", 0)

    def test_the_first_wrong_place_goes(self):
        self.wrong("step step; else", 5)
        self.wrong("for n from n + 0 to 1 (step 1)", 4)
        self.wrong("again 0 on more", 6)

    def test_words_where_names_are_wanted(self):
        for word in "step for from to if else double call with again on halves thirds less n".split():
            self.wrong(f"for {word} from 1 to 2 (step 1)", 4)
            self.wrong(f"call {word} with 1", 5)
            if word != "n":
                self.wrong(f"call scan with {word}", 15)
                self.wrong(f"if {word} <= 1 (step 1)", 3)
                self.wrong(f"if n <= {word} (step 1)", 8)
                self.wrong(f"for i from {word} to 2 (step 1)", 11)
                self.wrong(f"for i from 1 to {word} (step 1)", 16)

    def test_again_on_another_word(self):
        for word in ("half", "more", "n", "step", "thirdss", "on", "2", "(", ";"):
            self.wrong(f"again 2 on {word}", 11)

    def test_ends_that_are_none(self):
        self.wrong("call scan with 1 + 1", 17)
        self.wrong("call scan with 1 - 1", 17)
        self.wrong("call scan with - 1", 15)
        self.wrong("call scan with + n", 15)
        self.wrong("call scan with n + i", 19)
        self.wrong("call scan with n + n", 19)
        self.wrong("call scan with n + - 1", 19)
        self.wrong("call scan with n + 1 + 1", 21)
        self.wrong("call scan with n 1", 17)
        self.wrong("call scan with n1", 16)
        self.wrong("call scan with i j", 17)
        self.wrong("call scan with 2 n", 17)

    def test_behind_a_whole_plan(self):
        for more in SIGNS:
            if more != ";":
                self.wrong(f"step 1 {more}", 7)
                self.wrong(f"step 1  {more} step 1", 8)
        self.wrong("step 1)", 6)
        self.wrong("double (step 1))", 15)
        self.wrong("step 1 else (step 2)", 7)
        self.wrong("double (step 1) else (step 2)", 16)
        self.wrong("if n <= 1 (step 1) else (step 2) else (step 3)", 33)
        self.wrong("if n <= 1 (step 1); else (step 2)", 20)

    def test_bodies_that_are_none(self):
        self.wrong("double ()", 8)
        self.wrong("double (;)", 8)
        self.wrong("double (step 1;)", 15)
        self.wrong("double step 1", 7)
        self.wrong("(step 1)", 0)
        self.wrong("step 1;; step 1", 7)
        self.wrong("; step 1", 0)
        self.wrong("if n <= 1 (step 1) else step 1", 24)
        self.wrong("scan", 0)
        self.wrong("n", 0)
        self.wrong("5", 0)

    def test_the_place_is_just_the_first_wrong_one(self):
        # What stands ahead of the told place can go on; with the sign there it can not.
        for text, plan in WRITTEN:
            signs = spaced(text)
            for many in range(len(signs)):
                for sign in SIGNS:
                    self.check_place(signs[:many] + [sign] + signs[many + 1:], many)

    def check_place(self, signs, changed):
        text = " ".join(signs)
        at = self.at_of(text)
        if at is None:
            self.assertEqual(" ".join(spaced(plan_text(read_plan(text)))), text)
            return
        self.assertGreaterEqual(at, len(" ".join(signs[:changed])), text)
        self.assertIn(self.at_of(text[:at]), (None, at), text)
        if at < len(text):
            end = (text + " ").index(" ", at)
            self.assertEqual(self.at_of(text[:end]), at, text)
