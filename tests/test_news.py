"""[16], [17], [18]: news of watched pairs; [19]: how often sums are worked out."""

import unittest

from outgrow.pages import page, read_page
from outgrow.shelf import Shelf
from tests.shelves import filled, refused

LINE = "for i from 1 to n (step 1)"
FAR = "for i from 1 to n (for j from 1 to 99 (for k from 1 to 99 (step 99)))"
DOUBLED = "for i from 1 to n (double (step 1))"


class TestNews(unittest.TestCase):
    def shelf(self):
        return filled({"a": "step 1", "b": "step 2"}, [("w", "a", "b")])

    def test_a_pair_altered(self):
        shelf = self.shelf()
        self.assertEqual(shelf.news(), [])
        shelf.alter("a", LINE)
        self.assertEqual(shelf.news(), [("w", ("less", 0), ("more", 3))])
        self.assertEqual(shelf.news(), [])
        shelf.alter("a", "step 2")
        shelf.alter("b", "step 1")
        self.assertEqual(shelf.news(), [("w", ("more", 3), ("more", 0))])

    def test_taken_back(self):
        shelf = self.shelf()
        shelf.alter("a", LINE)
        shelf.undo()
        self.assertEqual(shelf.news(), [])
        shelf.redo()
        self.assertEqual(shelf.news(), [("w", ("less", 0), ("more", 3))])
        shelf.undo()
        self.assertEqual(shelf.news(), [("w", ("more", 3), ("less", 0))])
        shelf.alter("a", "step 2")
        shelf.alter("a", "step 1")
        self.assertEqual(shelf.news(), [])

    def test_what_is_called_counts(self):
        shelf = filled({"c": "step 1", "a": "call c with n", "b": "step 2"}, [("w", "a", "b")])
        shelf.alter("c", "step 2")
        self.assertEqual(shelf.news(), [("w", ("less", 0), ("alike", 0))])

    def test_by_labels_rising(self):
        shelf = self.shelf()
        shelf.watch("x", "b", "a")
        shelf.watch("c", "a", "a")
        shelf.watch("b", "b", "a")
        shelf.alter("b", "step 1")
        self.assertEqual(shelf.news(), [("b", ("more", 0), ("alike", 0)), ("w", ("less", 0), ("alike", 0)),
                                        ("x", ("more", 0), ("alike", 0))])

    def test_watched_anew(self):
        shelf = self.shelf()
        shelf.alter("a", LINE)
        shelf.unwatch("w")
        shelf.watch("w", "a", "b")
        self.assertEqual(shelf.news(), [])
        shelf.alter("a", "step 1")
        shelf.unwatch("w")
        self.assertEqual(shelf.news(), [])
        shelf.watch("w", "b", "a")
        self.assertEqual(shelf.news(), [])
        shelf.alter("b", "step 1")
        self.assertEqual(shelf.news(), [("w", ("more", 0), ("alike", 0))])

    def test_watched_again_by_undo_and_redo(self):
        shelf = self.shelf()
        shelf.alter("a", LINE)
        shelf.unwatch("w")
        shelf.undo()
        # It begins anew where the undo brings it back, so nothing is news.
        self.assertEqual(shelf.news(), [])
        shelf.undo()
        self.assertEqual(shelf.news(), [("w", ("more", 3), ("less", 0))])
        shelf.undo()
        self.assertEqual(shelf.news(), [])
        shelf.redo()
        shelf.redo()
        self.assertEqual(shelf.news(), [("w", ("less", 0), ("more", 3))])

    def test_in_deeds_done_together(self):
        again = [("unwatch", "w"), ("watch", "w", "a", "b")]
        shelf = self.shelf()
        shelf.together([("alter", "a", LINE), *again])
        # The same label had the same pair ahead of it, so it does not begin.
        self.assertEqual(shelf.news(), [("w", ("less", 0), ("more", 3))])
        shelf.alter("a", "step 1")
        shelf.together(again)
        self.assertEqual(shelf.news(), [("w", ("more", 3), ("less", 0))])
        shelf.alter("a", LINE)
        shelf.together([("unwatch", "w"), ("watch", "w", "b", "a")])
        self.assertEqual(shelf.news(), [])
        shelf.undo()
        self.assertEqual(shelf.news(), [])
        shelf.undo()
        self.assertEqual(shelf.news(), [("w", ("more", 3), ("less", 0))])

    def test_other_plans_by_the_same_names(self):
        shelf = self.shelf()
        shelf.together([("unwatch", "w"), ("drop", "a"), ("put", "a", "step 5"), ("watch", "w", "a", "b")])
        self.assertEqual(shelf.news(), [("w", ("less", 0), ("more", 0))])

    def test_watched_and_altered_in_one(self):
        shelf = filled({"a": "step 1", "b": "step 2"})
        shelf.together([("watch", "w", "a", "b"), ("alter", "a", LINE)])
        self.assertEqual(shelf.news(), [])
        shelf.alter("a", "step 1")
        self.assertEqual(shelf.news(), [("w", ("more", 3), ("less", 0))])

    def test_not_plain_and_far(self):
        shelf = filled({"a": "step 1; again 1 on halves", "b": DOUBLED}, [("w", "a", "b"), ("v", "b", "b")])
        self.assertEqual(shelf.news(), [])
        shelf.alter("a", FAR)
        self.assertEqual(shelf.news(), [("w", ("NotPlain", 0), ("Far", 0))])
        shelf.alter("a", LINE)
        self.assertEqual(shelf.news(), [("w", ("Far", 0), ("less", 2))])
        shelf.alter("b", "again 1 on thirds")
        self.assertEqual(shelf.news(), [("v", ("alike", 0), ("NotPlain", 0)), ("w", ("less", 2), ("NotPlain", 0))])

    def test_refused_deeds_are_no_news(self):
        shelf = self.shelf()
        shelf.alter("a", LINE)
        deeds = [("unwatch", "w"), ("drop", "gone")]
        refused(self, shelf, lambda: shelf.together(deeds), "Stopped", at=1, kind="NoPlan")
        refused(self, shelf, lambda: shelf.watch("w", "a", "b"), "Taken", name="w")
        self.assertEqual(shelf.news(), [("w", ("less", 0), ("more", 3))])

    def test_a_twin(self):
        shelf = self.shelf()
        shelf.alter("a", LINE)
        twin = shelf.twin()
        self.assertEqual(shelf.news(), [("w", ("less", 0), ("more", 3))])
        self.assertEqual(twin.news(), [("w", ("less", 0), ("more", 3))])
        third = twin.twin()
        self.assertEqual(third.news(), [])
        twin.undo()
        self.assertEqual((shelf.news(), third.news()), ([], []))
        self.assertEqual(twin.news(), [("w", ("more", 3), ("less", 0))])

    def test_a_page_begins_anew(self):
        shelf = self.shelf()
        shelf.alter("a", LINE)
        other = read_page(page(shelf))
        self.assertEqual(other.news(), [])
        other.alter("a", "step 1")
        self.assertEqual(other.news(), [("w", ("more", 3), ("less", 0))])


class TestWorked(unittest.TestCase):
    def asks(self, shelf, more, ask):
        before = shelf.worked
        told = ask()
        self.assertEqual(shelf.worked - before, more)
        return told

    def chain(self):
        return filled({"a": "step 1", "b": "call a with n; call a with 3", "c": "call b with n; call a with n",
                       "half": "call b with n; again 2 on halves",
                       "odd": "if 1 <= n (if n <= 2 (step 1)); again 2 on halves"})

    def test_asked_twice(self):
        shelf = self.chain()
        self.assertEqual((shelf.worked, type(shelf.worked)), (0, int))
        self.asks(shelf, 2, lambda: shelf.sums("b"))
        self.asks(shelf, 0, lambda: shelf.sums("b"))
        self.asks(shelf, 0, lambda: shelf.steps("a", 4))
        self.asks(shelf, 1, lambda: shelf.growth("c"))
        self.asks(shelf, 1, lambda: shelf.steps("half", 9))
        self.asks(shelf, 0, lambda: shelf.growth("half"))
        self.assertEqual(shelf.worked, 4)

    def test_each_question(self):
        for ask, more in [("sums", 3), ("growth", 3), ("text", 0), ("leans", 0)]:
            shelf = self.chain()
            self.asks(shelf, more, lambda: getattr(shelf, ask)("c"))
        for ask, more in [("against", 3), ("paper", 3), ("order", 3)]:
            shelf = self.chain()
            self.asks(shelf, more, lambda: getattr(shelf, ask)("b", "c"))
            self.asks(shelf, 0, lambda: getattr(shelf, ask)("c", "b"))
        shelf = self.chain()
        self.asks(shelf, 0, lambda: shelf.walk("c", 5))
        self.asks(shelf, 3, lambda: shelf.steps("c", 5))
        for ask in (shelf.names, shelf.labels, shelf.past, shelf.news, shelf.twin, lambda: page(shelf),
                    lambda: repr(shelf), lambda: shelf == shelf.twin()):
            self.asks(shelf, 0, ask)

    def test_refused_questions(self):
        shelf = self.chain()
        for ask, word, fields in [
            (lambda: shelf.sums("gone"), "NoPlan", {"name": "gone"}),
            (lambda: shelf.steps("c", -1), "BadNumber", {}),
            (lambda: shelf.steps("c", True), "BadNumber", {}),
            (lambda: shelf.order("c", "gone"), "NoPlan", {"name": "gone"}),
            (lambda: shelf.against("c", "half"), "NotPlain", {"name": "half"}),
            (lambda: shelf.paper("half", "c"), "NotPlain", {"name": "half"}),
            (lambda: shelf.against("c", "gone"), "NoPlan", {"name": "gone"}),
            (lambda: shelf.walk("c", 5, most=1), "Weary", {}),
        ]:
            refused(self, shelf, ask, word, **fields)
        refused(self, shelf, lambda: shelf.order("odd", "c"), "Uneven", worked=1, name="odd")
        refused(self, shelf, lambda: shelf.order("c", "odd"), "Uneven", worked=3, name="odd")
        far = filled({"one": FAR, "other": DOUBLED})
        refused(self, far, lambda: far.against("one", "other"), "Far", worked=2)
        refused(self, far, lambda: far.paper("one", "other"), "Far")

    def test_after_each_kind_of_deed(self):
        shelf = self.chain()
        shelf.sums("c")
        for deed in (lambda: shelf.put("d", "call c with n"), lambda: shelf.drop("d"), shelf.undo, shelf.redo,
                     lambda: shelf.together([])):
            self.asks(shelf, 0, deed)
            self.asks(shelf, 0, lambda: shelf.sums("c"))
        self.asks(shelf, 0, lambda: shelf.alter("b", "call a with n"))
        self.asks(shelf, 0, lambda: shelf.sums("a"))
        self.asks(shelf, 2, lambda: shelf.sums("c"))
        self.asks(shelf, 0, shelf.undo)
        self.asks(shelf, 2, lambda: shelf.sums("c"))

    def test_a_called_plan_altered(self):
        shelf = self.chain()
        shelf.sums("c")
        shelf.alter("a", "step 2")
        self.asks(shelf, 3, lambda: shelf.sums("c"))
        shelf.alter("a", "step 3")
        self.asks(shelf, 1, lambda: shelf.sums("a"))
        self.asks(shelf, 2, lambda: shelf.steps("c", 1))
        shelf.alter("a", "step  3")
        self.asks(shelf, 0, lambda: shelf.sums("c"))

    def test_altered_and_back_without_being_asked(self):
        shelf = self.chain()
        shelf.sums("c")
        shelf.alter("a", "step 2")
        shelf.alter("a", "step 1")
        self.asks(shelf, 0, lambda: shelf.sums("c"))
        shelf.alter("a", "step 2")
        self.asks(shelf, 1, lambda: shelf.sums("a"))
        shelf.undo()
        # The sums of c were worked out last with a as it stands now, those of a itself were not.
        self.asks(shelf, 0, lambda: shelf.sums("c"))
        self.asks(shelf, 0, lambda: shelf.sums("b"))
        self.asks(shelf, 1, lambda: shelf.sums("a"))

    def test_went_and_came_again(self):
        shelf = filled({"a": "step 1", "b": "step 2"})
        shelf.sums("a")
        shelf.drop("a")
        shelf.put("a", "step 1")
        self.asks(shelf, 0, lambda: shelf.sums("a"))
        shelf.drop("a")
        shelf.put("a", "step 5")
        self.asks(shelf, 1, lambda: shelf.sums("a"))
        shelf.undo()
        shelf.undo()
        self.asks(shelf, 1, lambda: shelf.sums("a"))

    def test_the_same_plan_by_another_name(self):
        shelf = filled({"a": "step 1", "b": "step 1"})
        self.asks(shelf, 1, lambda: shelf.sums("a"))
        self.asks(shelf, 1, lambda: shelf.sums("b"))

    def test_watching_and_news(self):
        shelf = self.chain()
        self.asks(shelf, 3, lambda: shelf.watch("w", "b", "c"))
        self.asks(shelf, 0, shelf.news)
        self.asks(shelf, 0, lambda: shelf.watch("v", "half", "c"))
        self.asks(shelf, 0, lambda: shelf.alter("a", "step 2"))
        self.asks(shelf, 3, shelf.news)
        self.asks(shelf, 0, shelf.news)
        self.asks(shelf, 0, shelf.undo)
        self.asks(shelf, 0, lambda: shelf.unwatch("w"))
        # It begins anew by the undo, and asks.
        self.asks(shelf, 3, shelf.undo)
        self.asks(shelf, 0, lambda: shelf.together([("unwatch", "w"), ("watch", "w", "b", "c")]))
        shelf.alter("b", "step 1")
        self.asks(shelf, 0, lambda: shelf.together([("unwatch", "w"), ("watch", "w", "b", "c")]))
        self.asks(shelf, 2, lambda: shelf.together([("unwatch", "w"), ("watch", "w", "c", "b")]))
        refused(self, shelf, lambda: shelf.watch("x", "odd", "gone"), "NoPlan", name="gone")
        refused(self, shelf, lambda: shelf.together([("watch", "x", "a", "b"), ("drop", "a")]), "Stopped",
                at=1, kind="InUse")

    def test_a_pair_that_goes_again_in_the_same_deed_asks_nothing(self):
        shelf = self.chain()
        self.asks(shelf, 0, lambda: shelf.together([("watch", "w", "b", "c"), ("unwatch", "w")]))

    def test_a_twin(self):
        shelf = self.chain()
        shelf.sums("b")
        twin = shelf.twin()
        self.assertEqual(twin.worked, 2)
        self.asks(twin, 0, lambda: twin.sums("b"))
        self.asks(twin, 1, lambda: twin.sums("c"))
        self.assertEqual(shelf.worked, 2)
        self.asks(shelf, 1, lambda: shelf.sums("c"))
        twin.alter("a", "step 7")
        self.asks(twin, 3, lambda: twin.sums("c"))
        self.asks(shelf, 0, lambda: shelf.sums("c"))
        self.assertEqual((shelf.steps("c", 0), twin.steps("c", 0)), (3, 21))

    def test_reading_a_page_may_work(self):
        shelf = read_page("plan a step 1\nplan b step 2\nwatch w a b\n")
        before = shelf.worked
        shelf.against("a", "b")
        self.assertLessEqual(shelf.worked - before, 2)
        self.assertEqual(Shelf().worked, 0)
