"""[1], [5]: what a plan is refused by when it is looked at by itself, and whom it calls."""

import inspect
import unittest

from outgrow.errors import Misplaced, NoName, Twice
from outgrow.look import calls_of, look_plan
from outgrow.texts import read_plan
from tests import oracle

GOOD = [
    "step 0",
    "step 1; step 2",
    "again 1 on less",
    "again 1 on halves",
    "again 9 on halves",
    "again 9 on thirds",
    "step 1; again 1 on less; step 2",
    "again 2 on thirds; for i from 1 to n (step 1)",
    "for i from 1 to n (step 1)",
    "for i from n to n + 3 (step 1)",
    "for i from 1 to n (for j from i to i + 1 (call scan with j - 1))",
    "for i from 1 to n (step 1); for i from 1 to n (step 1)",
    "for i from 1 to n (for j from 1 to 2 (step 1); for j from i to n (step 2))",
    "for i from 1 to n (if i <= 3 (call scan with i) else (double (call scan with i - 9)))",
    "if n <= 3 (for i from 1 to n (step 1)) else (for i from 1 to n (step 2))",
    "if 3 <= 2 (step 1)",
    "double (for i from 1 to n (step 1)); double (for i from 1 to n (double (call i with i)))",
    "for a from 1 to n (for b from a to n (for c from b to a (for d from c to b (call a with d))))",
    "call scan with n; call scan with 3; call scan with n + 99; call scan with n - 99",
]

NO_NAME = [
    ("call scan with i", "i"),
    ("call scan with i + 1", "i"),
    ("if i <= 5 (step 1)", "i"),
    ("if 5 <= i (step 1)", "i"),
    ("if i <= j (step 1)", "i"),
    ("if n <= 5 (step 1) else (call scan with x)", "x"),
    ("double (call scan with scan)", "scan"),
    # A `for`'s own ends stand outside of its brackets.
    ("for i from i to n (step 1)", "i"),
    ("for i from 1 to i (step 1)", "i"),
    ("for i from 1 to i - 1 (step 1)", "i"),
    ("for i from j to k (step 1)", "j"),
    ("for i from 1 to k (call scan with j)", "k"),
    ("for i from 1 to n (for j from 1 to j (step 1))", "j"),
    ("for i from 1 to n (for j from j to i (step 1))", "j"),
    # Behind the brackets of its `for`.
    ("for i from 1 to n (step 1); call scan with i", "i"),
    ("for i from 1 to n (for j from 1 to i (step 1); call scan with j)", "j"),
    ("for i from 1 to n (step 1); for j from 1 to i (step 1)", "i"),
    ("for i from 1 to n (step 1); for i from 1 to i (step 1)", "i"),
    ("for i from 1 to n (step 1); if i <= 1 (step 1)", "i"),
    ("if n <= 1 (for i from 1 to n (step 1)) else (call scan with i)", "i"),
    ("for i from 1 to n (call scan with i; call scan with j)", "j"),
    ("for i from 1 to n (for j from 1 to n (for k from 1 to n (if i <= m (step 1))))", "m"),
]

TWICE = [
    ("for i from 1 to n (for i from 1 to n (step 1))", "i"),
    ("for i from 1 to n (step 1; for j from 1 to n (for i from 1 to n (step 1)))", "i"),
    ("for i from 1 to n (double (if n <= 1 (step 1) else (for i from 1 to n (step 1))))", "i"),
    ("for i from 1 to n (for j from 1 to n (for j from 1 to n (step 1)))", "j"),
    # Twice goes ahead of the `for`'s ends.
    ("for i from 1 to n (for i from x to y (step 1))", "i"),
    ("for i from 1 to n (for i from i to n (step 1))", "i"),
    ("for i from 1 to n (for i from 1 to n (for i from x to n (step 1)))", "i"),
]

MISPLACED = [
    "double (again 1 on less)",
    "for i from 1 to n (again 2 on halves)",
    "if n <= 1 (again 2 on thirds)",
    "if n <= 1 (step 1) else (again 2 on thirds)",
    "double (double (step 1; again 1 on halves))",
    "again 1 on less; again 1 on less",
    "again 2 on halves; step 1; again 3 on thirds",
    "again 2 on halves; double (again 2 on halves)",
    "double (again 2 on halves); again 2 on halves",
    "again 2 on less",
    "again 9 on less",
    "step 1; again 2 on less",
    "again 1 on less; again 2 on less",
    "double (again 2 on less)",
]

# Several wrongs in one plan: the first one in its text goes.
SEVERAL = [
    ("call scan with x; again 2 on less", NoName, "x"),
    ("again 2 on less; call scan with x", Misplaced, None),
    ("call scan with x; call scan with y", NoName, "x"),
    ("if y <= x (call scan with z)", NoName, "y"),
    ("if 1 <= x (again 1 on less) else (call scan with y)", NoName, "x"),
    ("if n <= 1 (again 1 on less) else (call scan with y)", Misplaced, None),
    ("for i from x to n (for i from 1 to n (again 1 on less))", NoName, "x"),
    ("for i from 1 to n (for i from x to n (again 1 on less))", Twice, "i"),
    ("for i from 1 to n (again 1 on less; for i from x to n (step 1))", Misplaced, None),
    ("for i from 1 to n (call scan with x; for i from 1 to n (again 1 on less))", NoName, "x"),
    ("for i from 1 to n (for j from 1 to x (for i from 1 to n (step 1)))", NoName, "x"),
    ("again 1 on less; for i from 1 to n (for i from 1 to n (step 1)); again 1 on less", Twice, "i"),
    ("again 1 on less; again 1 on less; for i from 1 to n (for i from 1 to n (step 1))", Misplaced, None),
    ("double (call scan with x); again 2 on less; again 1 on less", NoName, "x"),
    ("for i from 1 to n (for i from 1 to i (step 1)); double (again 1 on less); call scan with x", Twice, "i"),
]


class TestLookPlan(unittest.TestCase):
    def refused(self, text, kind, name):
        with self.assertRaises(kind, msg=text) as caught:
            look_plan(read_plan(text))
        self.assertIs(type(caught.exception), kind, text)
        if name is not None:
            self.assertEqual(caught.exception.name, name, text)

    def test_good_plans(self):
        for text in GOOD:
            self.assertIsNone(oracle.kept(self, [read_plan(text)], look_plan), text)

    def test_no_name(self):
        for text, name in NO_NAME:
            self.refused(text, NoName, name)

    def test_twice(self):
        for text, name in TWICE:
            self.refused(text, Twice, name)

    def test_misplaced(self):
        for text in MISPLACED:
            self.refused(text, Misplaced, None)

    def test_the_first_of_several_goes(self):
        for text, kind, name in SEVERAL:
            self.refused(text, kind, name)

    def test_each_wrong_ahead_of_each_other_one(self):
        wrongs = [
            ("call scan with x", NoName, "x"),
            ("for i from 1 to n (for i from 1 to n (step 1))", Twice, "i"),
            ("double (again 1 on less)", Misplaced, None),
            ("again 2 on less", Misplaced, None),
        ]
        for first, kind, name in wrongs:
            for second, later, other in wrongs:
                for third, last, least in wrongs:
                    self.refused(f"step 1; {first}; {second}; {third}", kind, name)
                    self.refused(f"again 1 on halves; {first}; {second}; {third}", kind, name)

    def test_random_plans_are_good(self):
        chance = oracle.seeded(11)
        for turn in range(300):
            self.assertIsNone(look_plan(oracle.random_plan(chance, ["scan"])))


class TestCallsOf(unittest.TestCase):
    def test_names(self):
        for text, names in [
            ("step 1", []),
            ("again 1 on less", []),
            ("call a with n", ["a"]),
            ("call b with n; call a with n", ["b", "a"]),
            ("call b with n; call a with 1; call b with 2", ["b", "a"]),
            ("call a with n; call a with n", ["a"]),
            ("double (call z with n); call a with n", ["z", "a"]),
            ("for i from 1 to n (call x with i; double (call y with i)); call x with n", ["x", "y"]),
            ("if n <= 1 (call p with n) else (call q with n)", ["p", "q"]),
            ("if n <= 1 (call q with n; call p with n) else (call p with n; call o with n)", ["q", "p", "o"]),
            ("if n <= 1 (double (call q with n))", ["q"]),
            ("again 1 on less; for i from 1 to n (if i <= 1 (step 1) else (call i with i))", ["i"]),
            ("double (double (double (double (call d with n)))); call c with n; call d with n", ["d", "c"]),
        ]:
            self.assertEqual(oracle.kept(self, [read_plan(text)], calls_of), names, text)

    def test_a_told_list_is_a_new_one(self):
        plan = read_plan("call b with n; call a with n")
        told = calls_of(plan)
        told.append("c")
        told[0] = "x"
        self.assertEqual(calls_of(plan), ["b", "a"])
        none = calls_of(read_plan("step 1"))
        none.append("c")
        self.assertEqual(calls_of(read_plan("step 1")), [])

    def test_kinds(self):
        self.assertIs(type(calls_of(read_plan("call b with n"))), list)
        self.assertEqual(str(inspect.signature(look_plan)), "(plan)")
        self.assertEqual(str(inspect.signature(calls_of)), "(plan)")
