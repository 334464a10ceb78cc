"""[1], [15], [16], [17]: put, alter, drop, watch, unwatch, together, undo, redo, past and twins of a shelf."""

import unittest

from outgrow.errors import Refused
from outgrow.pages import page
from outgrow.shelf import Shelf
from tests import oracle
from tests.shelves import Slow, filled, outcome, refused, standing

PLANS = ["a", "b", "c", "d", "e", "f", "g", "h", "i", "j", "k", "l"]


def full():
    """Twelve plans and twelve labels, each plan but the last two called or watched."""
    texts = {name: "step 1" for name in PLANS}
    texts["b"] = "call a with n"
    return filled(texts, [(label, "c", "d") for label in PLANS])


class TestPut(unittest.TestCase):
    def test_done(self):
        shelf = Shelf()
        self.assertIsNone(shelf.put("scan", "for i from 1 to n(step 2)"))
        self.assertEqual(shelf.text("scan"), "for i from 1 to n (step 2)")
        self.assertEqual((shelf.names(), shelf.past()), (["scan"], (1, 0)))

    def test_bad_names(self):
        shelf = filled({"a": "step 1"})
        for name in ("", "A", "a1", "abcdefghi", "n", "step", "less", "a b", " a", "a\n", "call", "halves"):
            refused(self, shelf, lambda: shelf.put(name, "step 1"), "BadName")

    def test_in_their_order(self):
        shelf = full()
        refused(self, shelf, lambda: shelf.put("A", "odd"), "BadName")
        refused(self, shelf, lambda: shelf.put("a", "odd"), "Taken", name="a")
        refused(self, shelf, lambda: shelf.put("a", "step 1"), "Taken", name="a")
        refused(self, shelf, lambda: shelf.put("m", "odd"), "Full")
        refused(self, shelf, lambda: shelf.put("m", "step 1"), "Full")
        shelf.drop("l")
        refused(self, shelf, lambda: shelf.put("m", "odd"), "BadText", at=0)
        refused(self, shelf, lambda: shelf.put("m", "call gone with i"), "NoName", name="i")
        refused(self, shelf, lambda: shelf.put("m", "call gone with n; call m with n"), "NoPlan", name="gone")
        shelf.put("m", "step 1")
        self.assertEqual(len(shelf), 12)

    def test_labels_may_be_called_like_plans(self):
        shelf = filled({"a": "step 1"})
        shelf.watch("a", "a", "a")
        self.assertEqual((shelf.pair("a"), shelf.text("a")), (("a", "a"), "step 1"))
        shelf.put("w", "step 1")
        shelf.watch("w", "w", "a")


class TestAlter(unittest.TestCase):
    def test_done(self):
        shelf = filled({"a": "step 1", "b": "call a with n"})
        self.assertIsNone(shelf.alter("a", "step 2;step 3"))
        self.assertEqual((shelf.text("a"), shelf.past()), ("step 2; step 3", (3, 0)))
        self.assertEqual(shelf.steps("b", 5), 5)
        shelf.alter("a", "step 2; step 3")
        self.assertEqual(shelf.past(), (4, 0))

    def test_in_their_order(self):
        shelf = full()
        for name in ("gone", "A", "", "n"):
            refused(self, shelf, lambda: shelf.alter(name, "odd"), "NoPlan", name=name)
        refused(self, shelf, lambda: shelf.alter("a", "odd"), "BadText", at=0)
        refused(self, shelf, lambda: shelf.alter("a", "call b with i"), "NoName", name="i")
        refused(self, shelf, lambda: shelf.alter("a", "call b with n; again 1 on halves"), "Ring", name="a")
        refused(self, shelf, lambda: shelf.alter("a", "again 1 on halves"), "Breaks", name="b")
        shelf.alter("b", "call c with n; again 1 on halves")
        shelf.alter("a", "again 1 on halves")


class TestDrop(unittest.TestCase):
    def test_done(self):
        shelf = filled({"a": "step 1", "b": "step 1"})
        self.assertIsNone(shelf.drop("a"))
        self.assertEqual((shelf.names(), shelf.past()), (["b"], (3, 0)))

    def test_in_their_order(self):
        shelf = filled({"b": "step 1", "z": "call b with 3", "c": "call b with n", "a": "call c with n"},
                       [("x", "a", "b"), ("y", "b", "b"), ("v", "z", "a")])
        refused(self, shelf, lambda: shelf.drop("gone"), "NoPlan", name="gone")
        refused(self, shelf, lambda: shelf.drop("x"), "NoPlan", name="x")
        refused(self, shelf, lambda: shelf.drop("b"), "InUse", name="c")
        refused(self, shelf, lambda: shelf.drop("c"), "InUse", name="a")
        refused(self, shelf, lambda: shelf.drop("a"), "InUse", name="v")
        refused(self, shelf, lambda: shelf.drop("z"), "InUse", name="v")
        shelf.unwatch("v")
        refused(self, shelf, lambda: shelf.drop("a"), "InUse", name="x")
        shelf.drop("z")
        shelf.unwatch("x")
        shelf.drop("a")
        shelf.drop("c")
        refused(self, shelf, lambda: shelf.drop("b"), "InUse", name="y")


class TestWatch(unittest.TestCase):
    def test_done(self):
        shelf = filled({"a": "step 1", "b": "step 1"})
        self.assertIsNone(shelf.watch("w", "b", "a"))
        shelf.watch("v", "a", "a")
        self.assertEqual((shelf.labels(), shelf.pair("w"), shelf.pair("v")), (["v", "w"], ("b", "a"), ("a", "a")))
        self.assertIsNone(shelf.unwatch("w"))
        self.assertEqual((shelf.labels(), shelf.past()), (["v"], (5, 0)))
        refused(self, shelf, lambda: shelf.unwatch("w"), "NoLabel", name="w")
        refused(self, shelf, lambda: shelf.unwatch("a"), "NoLabel", name="a")

    def test_in_their_order(self):
        shelf = full()
        refused(self, shelf, lambda: shelf.watch("W", "gone", "away"), "BadName")
        refused(self, shelf, lambda: shelf.watch("n", "a", "b"), "BadName")
        refused(self, shelf, lambda: shelf.watch("a", "gone", "away"), "Taken", name="a")
        refused(self, shelf, lambda: shelf.watch("a", "c", "d"), "Taken", name="a")
        refused(self, shelf, lambda: shelf.watch("w", "gone", "away"), "Full")
        refused(self, shelf, lambda: shelf.watch("w", "a", "b"), "Full")
        shelf.unwatch("l")
        refused(self, shelf, lambda: shelf.watch("w", "gone", "away"), "NoPlan", name="gone")
        refused(self, shelf, lambda: shelf.watch("w", "a", "away"), "NoPlan", name="away")
        shelf.watch("w", "a", "b")
        self.assertEqual(len(shelf.labels()), 12)


ROW = [("put", "b", "call a with n - 1"), ("alter", "a", "step 2"), ("watch", "w", "a", "b"), ("unwatch", "w"),
       ("drop", "b")]


class TestTogether(unittest.TestCase):
    def test_all(self):
        shelf = filled({"a": "step 1"})
        self.assertIsNone(shelf.together(ROW))
        self.assertEqual((page(shelf), shelf.past()), ("plan a step 2\n", (2, 0)))
        shelf.undo()
        self.assertEqual((page(shelf), shelf.past()), ("plan a step 1\n", (1, 1)))
        shelf.redo()
        self.assertEqual((page(shelf), shelf.past()), ("plan a step 2\n", (2, 0)))
        shelf.together(ROW[:3])
        self.assertEqual(page(shelf), "plan a step 2\nplan b call a with n - 1\nwatch w a b\n")
        shelf.undo()
        self.assertEqual(page(shelf), "plan a step 2\n")

    def test_none(self):
        shelf = filled({"a": "step 1", "b": "step 1"})
        shelf.undo()
        before = standing(shelf)
        self.assertIsNone(shelf.together([]))
        self.assertEqual(standing(shelf), before)
        self.assertEqual(shelf.past(), (1, 1))

    def test_refused_at_each_place(self):
        wrong = [
            (("put", "A", "step 1"), "BadName"), (("put", "a", "step 1"), "Taken"), (("put", "c", "odd"), "BadText"),
            (("put", "c", "again 2 on less"), "Misplaced"), (("put", "c", "call gone with n"), "NoPlan"),
            (("put", "c", "call c with n"), "Ring"), (("alter", "gone", "step 1"), "NoPlan"),
            (("drop", "gone"), "NoPlan"), (("watch", "v", "a", "gone"), "NoPlan"), (("unwatch", "v"), "NoLabel"),
        ]
        for place in range(len(ROW) + 1):
            for deed, kind in wrong:
                shelf = filled({"a": "step 1"})
                shelf.put("z", "step 1")
                shelf.undo()
                deeds = ROW[:place] + [deed] + ROW[place:]
                refused(self, shelf, lambda: shelf.together(deeds), "Stopped", at=place, kind=kind)

    def test_each_by_what_those_ahead_leave(self):
        shelf = filled({"a": "step 1", "b": "call a with n"}, [("w", "a", "b")])
        for deeds, at, kind in [
            ([("drop", "b"), ("drop", "a")], 0, "InUse"),
            ([("unwatch", "w"), ("drop", "a"), ("drop", "b")], 1, "InUse"),
            ([("put", "c", "call d with n"), ("put", "d", "step 1")], 0, "NoPlan"),
            ([("put", "d", "step 1"), ("put", "c", "call d with n"), ("alter", "d", "again 1 on halves")], 2, "Breaks"),
            ([("alter", "a", "again 1 on halves"), ("alter", "b", "step 1")], 0, "Breaks"),
            ([("put", name, "step 1") for name in PLANS[2:]] + [("put", "m", "step 1")], 10, "Full"),
        ]:
            refused(self, shelf, lambda: shelf.together(deeds), "Stopped", at=at, kind=kind)
        shelf.together([("alter", "b", "step 1"), ("alter", "a", "again 1 on halves")])
        shelf.together([("unwatch", "w"), ("drop", "b"), ("drop", "a"), ("put", "a", "step 4"), ("put", "b", "step 5"),
                        ("watch", "w", "a", "b")])
        self.assertEqual(page(shelf), "plan a step 4\nplan b step 5\nwatch w a b\n")

    def test_the_list_stays_and_does_not_matter_later(self):
        shelf = filled({"a": "step 1"})
        deeds = list(ROW[:3])
        shelf.together(deeds)
        self.assertEqual(deeds, ROW[:3])
        before = standing(shelf)
        deeds.clear()
        deeds.append(("drop", "a"))
        self.assertEqual(standing(shelf), before)
        shelf.undo()
        shelf.redo()
        self.assertEqual(standing(shelf), before)


class TestUndo(unittest.TestCase):
    def test_nothing_left(self):
        shelf = Shelf()
        refused(self, shelf, shelf.undo, "NothingLeft")
        refused(self, shelf, shelf.redo, "NothingLeft")
        shelf.put("a", "step 1")
        refused(self, shelf, shelf.redo, "NothingLeft")
        self.assertIsNone(shelf.undo())
        refused(self, shelf, shelf.undo, "NothingLeft")
        self.assertIsNone(shelf.redo())
        refused(self, shelf, shelf.redo, "NothingLeft")

    def test_sixty_deeds(self):
        shelf = Shelf()
        pages = [page(shelf)]
        for turn in range(12):
            name = PLANS[turn]
            for deed in [("put", name, "step 1"), ("alter", name, "step 2"), ("watch", name, name, "a"),
                         ("alter", name, f"step {turn}"), ("unwatch", name)]:
                shelf.together([deed])
                pages.append(page(shelf))
        self.assertEqual(shelf.past(), (60, 0))
        for turn in range(60):
            self.assertEqual(page(shelf), pages[60 - turn])
            shelf.undo()
            self.assertEqual(shelf.past(), (59 - turn, turn + 1))
        self.assertEqual(shelf, Shelf())
        for turn in range(60):
            shelf.redo()
            self.assertEqual((page(shelf), shelf.past()), (pages[turn + 1], (turn + 1, 59 - turn)))

    def test_a_new_deed_leaves_nothing_to_do_again(self):
        shelf = filled({"a": "step 1", "b": "step 1", "c": "step 1"})
        shelf.undo()
        shelf.undo()
        self.assertEqual(shelf.past(), (1, 2))
        refused(self, shelf, lambda: shelf.put("a", "step 1"), "Taken", name="a")
        self.assertEqual(shelf.past(), (1, 2))
        shelf.put("d", "step 1")
        self.assertEqual((shelf.past(), shelf.names()), ((2, 0), ["a", "d"]))
        shelf.undo()
        shelf.undo()
        self.assertEqual((shelf.past(), shelf.names()), ((0, 2), []))

    def test_kinds(self):
        told = filled({"a": "step 1"}).past()
        self.assertIs(type(told), tuple)
        self.assertEqual([type(number) for number in told], [int, int])


class TestTwin(unittest.TestCase):
    def test_alike_and_apart(self):
        shelf = filled({"a": "step 1", "b": "call a with n"}, [("w", "a", "b")])
        shelf.undo()
        twin = shelf.twin()
        self.assertIs(type(twin), Shelf)
        self.assertEqual(standing(twin), standing(shelf))
        before = standing(shelf)
        twin.redo()
        twin.alter("a", "step 9")
        twin.undo()
        twin.undo()
        twin.undo()
        twin.put("c", "step 1")
        self.assertEqual(standing(shelf), before)
        twin = shelf.twin()
        before = standing(twin)
        shelf.redo()
        shelf.together([("unwatch", "w"), ("drop", "b")])
        self.assertEqual(standing(twin), before)
        self.assertEqual(twin.past(), (2, 1))
        twin.redo()
        self.assertEqual(twin.pair("w"), ("a", "b"))


class TestEqual(unittest.TestCase):
    def test_unlike_histories(self):
        one = filled({"a": "step 1", "b": "call a with n"}, [("w", "a", "b")])
        other = filled({"c": "step 9", "a": "step 7", "b": "call  a  with n"}, [("v", "a", "a"), ("w", "a", "b")])
        self.assertNotEqual(one, other)
        other.unwatch("v")
        other.alter("a", "step 1")
        self.assertFalse(one == other)
        other.drop("c")
        self.assertTrue(one == other)
        self.assertFalse(one != other)
        other.sums("b")
        self.assertEqual(one, other.twin())
        one.undo()
        self.assertNotEqual(one, other)

    def test_what_makes_them_unlike(self):
        base = filled({"a": "step 1", "b": "step 1"}, [("w", "a", "b")])
        for deeds in ([("alter", "a", "step 2")], [("put", "c", "step 1")], [("unwatch", "w")],
                      [("watch", "v", "a", "b")], [("unwatch", "w"), ("watch", "w", "b", "a")],
                      [("unwatch", "w"), ("watch", "v", "a", "b")],
                      [("unwatch", "w"), ("drop", "b")]):
            other = base.twin()
            self.assertEqual(base, other)
            other.together(deeds)
            self.assertNotEqual(base, other)
            self.assertNotEqual(other, base)

    def test_to_nothing_else(self):
        shelf = Shelf()
        for other in (None, 0, "", [], {}, (), "Shelf(0 plans, 0 watched)", Slow()):
            self.assertFalse(shelf == other)
            self.assertTrue(shelf != other)
        self.assertTrue(shelf == Shelf())

    def test_len_and_repr(self):
        shelf = filled({"a": "step 1", "b": "step 1"}, [("w", "a", "b")])
        self.assertEqual((len(shelf), repr(shelf)), (2, "Shelf(2 plans, 1 watched)"))
        shelf.watch("v", "a", "b")
        self.assertEqual((len(shelf), repr(shelf)), (2, "Shelf(2 plans, 2 watched)"))
        self.assertEqual((len(full()), repr(full())), (12, "Shelf(12 plans, 12 watched)"))


TEXTS = ["step 1", "step 2", "double (step 1)", "for i from 1 to n (step 1)", "call {} with n", "call {} with n - 1",
         "call {} with 3", "step 1; again 2 on halves", "step 1; again 1 on less", "call {} with n; again 1 on less",
         "for i from 1 to n (call {} with n)", "odd", "if n <= 5 (step 9)", "double (call {} with n)",
         "again 2 on less",
         "for i from 1 to n (for j from 1 to 99 (for k from 1 to 99 (step 1)))", "for i from 1 to n (double (step 1))",
         "for i from 1 to n (for j from i to n (call {} with n))", "call {} with i", "call {} with n; call {} with 2"]


class TestRandom(unittest.TestCase):
    """Random deeds and questions, against the words once more."""

    def deed(self, chance):
        names = "abcde"
        kind = chance.choice(["put", "put", "alter", "alter", "drop", "watch", "unwatch"])
        text = chance.choice(TEXTS).format(chance.choice(names), chance.choice(names))
        if kind in ("put", "alter"):
            return kind, chance.choice(names), text
        if kind == "drop":
            return kind, chance.choice(names)
        if kind == "watch":
            return kind, chance.choice("uvwxN"), chance.choice(names), chance.choice(names)
        return kind, chance.choice("uvwx")

    def step(self, chance, shelf, slow):
        turn = chance.random()
        if turn < 0.6:
            deed = self.deed(chance)
            return outcome(lambda: getattr(shelf, deed[0])(*deed[1:])), slow.deed(*deed)
        if turn < 0.7:
            deeds = [self.deed(chance) for place in range(chance.randint(0, 4))]
            return outcome(lambda: shelf.together(deeds)), slow.together(deeds)
        if turn < 0.78:
            return outcome(shelf.undo), slow.undo()
        if turn < 0.83:
            return outcome(shelf.redo), slow.redo()
        if turn < 0.93 or not slow.plans:
            return shelf.news(), slow.news()
        name = chance.choice(sorted(slow.plans))
        slow.need(name)
        return shelf.sums(name), slow.fresh(name).sums(name)

    def test_many(self):
        chance = oracle.seeded(12)
        words = {}
        for run in range(100):
            pairs = [(Shelf(), Slow())]
            for turn in range(120):
                shelf, slow = chance.choice(pairs)
                told, wanted = self.step(chance, shelf, slow)
                self.assertEqual(told, wanted)
                words["news" if told and len(told[0]) == 3 else str(told[0]) if told else ""] = True
                if chance.random() < 0.04:
                    pairs.append((shelf.twin(), slow.twin()))
                for each, other in pairs:
                    self.assertEqual((page(each), each.past(), each.worked),
                                     (other.page(), (len(other.back), len(other.ahead)), other.worked))
        self.assertLessEqual({"told", "Stopped", "NothingLeft", "NoPlan", "Ring", "NotPlain", "Tangled", "Breaks",
                              "InUse", "Taken", "BadName", "BadText", "NoLabel", "NoName", "Misplaced", "news"},
                             set(words))

    def test_refusals_are_value_errors(self):
        with self.assertRaises(Refused):
            Shelf().undo()
