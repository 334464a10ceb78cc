"""[1], [6], [7]: the steps of plans, and how many visits they want."""

import inspect
import unittest

from outgrow.errors import Weary
from outgrow.look import look_plan
from outgrow.texts import read_plan
from outgrow.walks import walked
from tests import oracle

# text, size, steps, visits
ALONE = [
    ("step 3", 0, 3, 1),
    ("step 3", 10 ** 30 - 1, 3, 1),
    ("step 0", 5, 0, 1),
    ("step 3; step 4", 5, 7, 2),
    ("for i from 1 to n (step 2)", 0, 0, 1),
    ("for i from 1 to n (step 2)", 1, 2, 3),
    ("for i from 1 to n (step 2)", 5, 10, 11),
    ("for i from 1 to n (step 2; step 1)", 5, 15, 16),
    ("for i from 5 to 4 (step 1)", 9, 0, 1),
    ("for i from 4 to 4 (step 1)", 9, 1, 3),
    ("for i from n to n - 1 (step 1)", 9, 0, 1),
    ("for i from n + 99 to 0 (step 1)", 9, 0, 1),
    ("for i from n - 9 to n + 2 (step 1)", 4, 12, 25),
    ("for i from n - 9 to 2 (if i <= 0 (step 1))", 4, 6, 1 + 8 + 8 + 6),
    ("for i from 1 to n (for j from i to n (step 1))", 4, 10, 1 + 4 + 4 + 10 + 10),
    ("if n <= 5 (step 1) else (step 2)", 4, 1, 2),
    ("if n <= 5 (step 1) else (step 2)", 5, 1, 2),
    ("if n <= 5 (step 1) else (step 2)", 6, 2, 2),
    ("if n <= 5 (step 1)", 6, 0, 1),
    ("if n <= 5 (step 1)", 5, 1, 2),
    ("if n - 9 <= 0 (step 1; step 1) else (step 7)", 2, 2, 3),
    ("double (step 1)", 0, 0, 1),
    ("double (step 1)", 1, 1, 3),
    ("double (step 1)", 2, 2, 5),
    ("double (step 1)", 3, 2, 5),
    ("double (step 1)", 4, 3, 7),
    ("double (step 1)", 255, 8, 17),
    ("double (step 1)", 256, 9, 19),
    ("double (step 1)", 10 ** 30 - 1, 100, 201),
    ("double (double (step 1; step 2))", 7, 27, 1 + 3 + 3 + 9 + 18),
    ("again 2 on halves", 0, 0, 0),
    ("again 2 on halves", 1, 0, 1),
    ("again 2 on halves", 8, 0, 4),
    ("again 2 on halves; step 1", 0, 1, 1),
    ("step 1; again 2 on halves", 1, 3, 3),
    ("step 1; again 2 on halves", 2, 7, 5),
    ("step 1; again 2 on halves", 3, 7, 5),
    ("step 1; again 2 on halves", 4, 15, 7),
    ("again 1 on halves; for i from 1 to n (step 1)", 7, 11, (1 + 14) + 1 + (1 + 6) + 1 + (1 + 2) + 1 + 1),
    ("step 1; again 3 on thirds", 0, 1, 1),
    ("step 1; again 3 on thirds", 2, 4, 3),
    ("step 1; again 3 on thirds", 3, 13, 5),
    ("step 1; again 9 on thirds", 26, 1 + 9 + 81 + 729, 7),
    ("step 5; again 1 on less", 0, 5, 1),
    ("step 5; again 1 on less", 1, 10, 3),
    ("step 5; again 1 on less", 7, 40, 15),
    ("again 1 on less", 7, 0, 7),
    ("again 1 on less; for i from 1 to n (step 1)", 3, 6, (1 + 6) + 1 + (1 + 4) + 1 + (1 + 2) + 1 + 1),
    ("double (step 1); again 1 on less", 4, 8, 7 + 1 + 5 + 1 + 5 + 1 + 3 + 1 + 1),
    ("step 1; again 2 on halves", 10 ** 30 - 1, 2 ** 101 - 1, 201),
]

SHELF = {
    "one": "step 1",
    "line": "for i from 1 to n (call one with i)",
    "sum": "for i from 1 to n (call line with i); call line with n - 3",
    "down": "call one with n; again 1 on less",
    "calls": "call down with n - 2; call down with 1; double (call down with n + 1)",
    "half": "call line with n; again 2 on halves",
    "deep": "call half with n - 1; step 1",
}


def plans_of(texts):
    return {name: read_plan(texts[name]) for name in texts}


class Walks(unittest.TestCase):
    def check(self, plans, name, size, steps, visits):
        """Just as many visits as are wanted, one more, and one less."""
        def walk(*, most):
            return oracle.kept(self, [plans, name, size], lambda *asked: walked(*asked, most=most))
        for most in (visits, visits + 1, 10 ** 9):
            told = walk(most=most)
            self.assertEqual(told, steps, (plans[name], size))
            self.assertIs(type(told), int)
        if visits > 0:
            for most in {0, visits // 2, visits - 1}:
                with self.assertRaises(Weary, msg=(plans[name], size)):
                    walk(most=most)


class TestWalked(Walks):
    def test_each_kind_of_thing(self):
        for text, size, steps, visits in ALONE:
            self.check({"it": read_plan(text)}, "it", size, steps, visits)

    def test_calls(self):
        plans = plans_of(SHELF)
        for name, size, steps, visits in [
            ("line", 0, 0, 1),
            ("line", 3, 3, 1 + 3 * 3),
            ("sum", 2, 3, 1 + 2 + 2 + (1 + 3) + (1 + 6) + 1 + 1),
            ("sum", 4, 11, 1 + 4 + 4 + 4 + 30 + 1 + 1 + 3),
            ("down", 0, 1, 2),
            ("down", 2, 3, 8),
            ("deep", 0, 1, 1 + 2 + 1),
            ("deep", 3, 1 + 2 + 2 * 1, 1 + (1 + 7) + 1 + (1 + 4) + 1 + (1 + 1) + 1),
        ]:
            self.check(plans, name, size, steps, visits)

    def test_an_end_below_nought_is_nought(self):
        plans = plans_of({"it": "call f with n - 5", "f": "step 1; for i from 0 to n (step 2)"})
        for size in range(6):
            self.check(plans, "it", size, 3, 5)
        self.check(plans, "it", 6, 5, 7)
        plans = plans_of({"it": "for i from n - 9 to 1 (call f with i)", "f": "double (step 1); step 1; again 1 on less"})
        for size in (0, 3):
            self.check(plans, "it", size, *oracle.count(plans, "it", size))

    def test_a_called_plan_has_its_own_n_and_names(self):
        plans = plans_of({
            "it": "for i from 1 to 3 (call f with i; if i <= n (step 50))",
            "f": "for i from 5 to n + 5 (step 1); if n <= 2 (step 10)",
        })
        self.assertEqual(walked(plans, "it", 2), (2 + 10) + (3 + 10) + 4 + 100)

    def test_every_plan_at_many_sizes(self):
        plans = plans_of(SHELF)
        for name in plans:
            for size in range(12):
                self.check(plans, name, size, *oracle.count(plans, name, size))

    def test_random_plans(self):
        chance = oracle.seeded(6)
        tried = 0
        while tried < 150:
            plans = {"low": oracle.random_plan(chance, [], again=0.4), "mid": oracle.random_plan(chance, ["low"], 2)}
            plans["top"] = oracle.random_plan(chance, ["low", "mid"], 2)
            for plan in plans.values():
                look_plan(plan)
            size = chance.randint(0, 9)
            steps, visits = oracle.count(plans, "top", size)
            if visits <= 4000:
                self.check(plans, "top", size, steps, visits)
                tried += 1

    def test_steps_may_be_many(self):
        plans = {"it": read_plan("for i from 1 to 99 (for j from 1 to n (step 99)); again 9 on halves")}
        self.assertEqual(walked(plans, "it", 40, most=10 ** 6), oracle.count(plans, "it", 40)[0])


class TestMost(Walks):
    def test_ten_thousand_where_it_is_left_out(self):
        # One for itself and two for each round, and one step.
        exact = {"it": read_plan("step 1; for i from 1 to n (step 1)")}
        self.assertEqual(oracle.count(exact, "it", 4999), (5000, 10000))
        self.assertEqual(walked(exact, "it", 4999), 5000)
        more = {"it": read_plan("step 1; step 1; for i from 1 to n (step 1)")}
        self.assertEqual(oracle.count(more, "it", 4999), (5001, 10001))
        with self.assertRaises(Weary):
            walked(more, "it", 4999)
        self.assertEqual(walked(more, "it", 4999, most=10001), 5001)

    def test_ten_thousand_of_other_kinds(self):
        down = read_plan("step 7; again 1 on less")
        for text, size, steps in [
            ("again 1 on less", 10000, 0),
            ("call down with n; step 0; step 0", 4998, 7 * 4999),
            ("for i from 1 to n (for j from 1 to n (step 1)); for k from 1 to 29 (step 0)", 70, 4900),
        ]:
            plan = read_plan(text)
            plans = {"it": plan, "down": down}
            self.assertEqual(walked(plans, "it", size), steps, text)
            self.assertRaises(Weary, walked, plans, "it", size, most=9999)
            self.assertRaises(Weary, walked, {"it": plan + (("step", 0),), "down": down}, "it", size)

    def test_endless_looking_walks_stop(self):
        for text in ("for i from 1 to n (step 0)", "again 1 on less", "step 1; again 1 on less",
                     "for i from 1 to n (for j from i to n (step 1))", "for i from 1 to n (if n <= 0 (step 1))"):
            plans = {"it": read_plan(text)}
            with self.assertRaises(Weary):
                oracle.kept(self, [plans, "it", 10 ** 30 - 1], walked)

    def test_deep_lesser_sizes(self):
        plans = {"it": read_plan("step 1; again 1 on less"), "up": read_plan("call it with n")}
        self.assertEqual(walked(plans, "up", 50000, most=200000), 50001)
        self.assertRaises(Weary, walked, plans, "up", 50000, most=100001)
        self.assertEqual(walked(plans, "up", 50000, most=100002), 50001)

    def test_no_visits_at_all(self):
        self.assertEqual(walked({"it": read_plan("again 3 on thirds")}, "it", 0, most=0), 0)
        self.assertRaises(Weary, walked, {"it": read_plan("again 3 on thirds")}, "it", 1, most=0)
        self.assertRaises(Weary, walked, {"it": read_plan("step 0")}, "it", 0, most=0)

    def test_kinds(self):
        self.assertEqual(str(inspect.signature(walked)), "(plans, name, size, *, most=10000)")
