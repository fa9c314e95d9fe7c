"""A live drawer: points 23 and 24."""

import unittest

from seerings.cards import Card
from seerings.desks import Desk, Trial
from seerings.drawers import Drawer, filed
from seerings.errors import (
    InvalidDrawer, InvalidHeading, InvalidName, InvalidOperation, InvalidRule, SeeError, UnknownName, UnknownPlace,
)

from tests import examples, reference
from tests.made import NO_RULES, NO_WORDS, RULES, Dice, plain, some_card, some_drawers

NO_OPERATIONS = (
    (), [], None, 5, "undo", "take", ["take", 0], ("take",), ("take", 0, 1), ("put",), ("put", 0), ("put", 0, 1, 2),
    ("shift", 0), ("shift", 0, 1, 2), ("use",), ("use", "a", "b"), ("file_all", 0), ("keep_as",), ("keep_as", "a", "b"),
    ("fetch",), ("fetch", "a", "b"), ("undo", 1), ("redo", 1), ("", 0), ("Take", 0), ("moved", 0, 1), (None,), (5, 0),
    (("take",), 0), (["undo"],), ({},), ("apply_all", []), ("tried", [], True), ("replay", 0, 0, 0), ("history",),
    ("contents",), ("_executed", ()), (b"undo",), (True,), ("undo ",),
)


def state(desk):
    """Return all that a desk tells."""
    return desk.contents, desk.look_count, desk.kept, desk.history


def depths(desk):
    """Return how many operations can be undone, and redone; the desk is as before then."""
    back, ahead = 0, 0
    while desk.undo():
        back += 1
    while desk.redo():
        ahead += 1
    for _ in range(ahead - back):
        desk.undo()
    return back, ahead - back


def changed(drawer, rule="all"):
    """Return a desk on which some operations are in effect, and some are undone."""
    desk = Desk(drawer, rule)
    desk.keep_as("first")
    desk.put(Card("zebra", (9,)), 0)
    desk.use("zebra")
    desk.keep_as("second")
    desk.file_all()
    desk.undo()
    desk.undo()
    return desk


class DeskCase(unittest.TestCase):

    def check_unchanged_by(self, error, desk, call):
        """Check that a call raises an error, and that the desk is as before, also for undo and redo."""
        before, deep = state(desk), depths(desk)
        with self.assertRaises(error) as caught:
            call()
        self.assertEqual((state(desk), depths(desk)), (before, deep))
        return caught.exception


class ExampleTest(unittest.TestCase):

    def test_examples(self):
        examples.run(self, """
>>> from seerings.cards import Card
>>> from seerings.drawers import Drawer
>>> from seerings.desks import Desk
>>> drawer = Drawer((Card("tram", books=(1,)), Card("bus", also=("tram",)), Card("rail", see="tram")))
>>> desk = Desk(drawer, "all")
>>> ships = [("take", 0), ("put", Card("ship"), 0), ("fetch", "x")]
>>> told = desk.apply_all([("use", "rail"), ("keep_as", "x")] + ships)
>>> [told, desk.look_count, desk.kept, desk.undo(), desk.contents[0].heading]
[[3, False, 'rail', 3, 3], 3, ['x'], True, 'ship']
""")
        examples.run(self, """
>>> from seerings.desks import Desk
>>> from seerings.drawers import Drawer
>>> Desk(Drawer(()), "all").shift(0, 0)
raises UnknownPlace()
""")


class NewDeskTest(unittest.TestCase):

    def test_at_first(self):
        for rule in RULES:
            desk = Desk(plain("cab"), rule)
            self.assertEqual(state(desk), (plain("cab"), 0, [], []))
            self.assertEqual(depths(desk), (0, 0))

    def test_wrong_rules(self):
        for rule in NO_RULES:
            with self.assertRaises(InvalidRule):
                Desk(plain("cab"), rule)


class PutTest(DeskCase):

    def test_places(self):
        for place, text in ((0, "xab"), (1, "axb"), (2, "abx")):
            desk = Desk(plain("ab"), "all")
            self.assertEqual(desk.put(Card("x"), place), 3)
            self.assertEqual(state(desk), (plain(text), 0, [], [("put", Card("x"), place)]))
        desk = Desk(Drawer(()), "half")
        self.assertEqual(desk.put(Card("b", see="a"), 0), 1)
        self.assertEqual(desk.contents, Drawer((Card("b", see="a"),)))

    def test_unknown_places(self):
        for place in (3, 4, -1, 16, True, False):
            desk = changed(plain("a"))
            self.assertEqual(len(desk.contents), 2)
            self.check_unchanged_by(UnknownPlace, desk, lambda: desk.put(Card("x"), place))

    def test_sixteen_cards(self):
        desk = Desk(plain("a" * 15), "all")
        self.assertEqual(desk.put(Card("x"), 15), 16)
        for place in (0, 7, 15, 16):
            self.check_unchanged_by(InvalidDrawer, desk, lambda: desk.put(Card("x"), place))
        for place in (17, -1, True):
            self.check_unchanged_by(UnknownPlace, desk, lambda: desk.put(Card("x"), place))


class TakeTest(DeskCase):

    def test_places(self):
        for place, text in ((0, "bc"), (1, "ac"), (2, "ab")):
            desk = Desk(plain("abc"), "all")
            self.assertEqual(desk.take(place), "abc"[place])
            self.assertEqual(state(desk), (plain(text), 0, [], [("take", place)]))
        desk = Desk(plain("a"), "all")
        self.assertEqual((desk.take(0), desk.contents), ("a", Drawer(())))

    def test_unknown_places(self):
        for place in (2, 3, -1, True, False):
            desk = changed(plain("a"))
            self.check_unchanged_by(UnknownPlace, desk, lambda: desk.take(place))
        with self.assertRaises(UnknownPlace):
            Desk(Drawer(()), "all").take(0)


class ShiftTest(DeskCase):

    def test_places(self):
        for place, other, text in ((0, 2, "bca"), (2, 0, "cab"), (1, 2, "acb"), (0, 1, "bac")):
            desk = Desk(plain("abc"), "all")
            self.assertIs(desk.shift(place, other), False)
            self.assertEqual(state(desk), (plain(text), 0, [], [("shift", place, other)]))
            self.assertIs(desk.shift(other, place), True)
            self.assertEqual(desk.contents, plain("abc"))

    def test_the_own_place(self):
        for text, is_filed in (("abc", True), ("acb", False), ("aab", True)):
            desk = Desk(plain(text), "all")
            self.assertIs(desk.shift(1, 1), is_filed)
            self.assertEqual(state(desk), (plain(text), 0, [], [("shift", 1, 1)]))

    def test_unknown_places(self):
        for place, other in ((2, 0), (0, 2), (-1, 0), (0, -1), (True, 0), (0, True), (2, 2)):
            desk = changed(plain("a"))
            self.check_unchanged_by(UnknownPlace, desk, lambda: desk.shift(place, other))


class UseTest(DeskCase):

    def test_a_card_that_is_found_is_put_in_front(self):
        for rule, looks in (("all", 3), ("leaf", 3), ("half", 2)):
            desk = Desk(plain("abc"), rule)
            self.assertEqual(desk.use("c"), looks)
            self.assertEqual(state(desk), (plain("cab"), looks, [], [("use", "c")]))

    def test_a_card_that_lies_in_front_already(self):
        desk = Desk(plain("abc"), "all")
        self.assertEqual(desk.use("a"), 1)
        self.assertEqual(state(desk), (plain("abc"), 1, [], [("use", "a")]))

    def test_a_heading_that_is_not_there(self):
        desk = Desk(plain("abc"), "leaf")
        self.assertEqual((desk.use("x"), desk.use("aa")), (3, 2))
        self.assertEqual(state(desk), (plain("abc"), 5, [], [("use", "x"), ("use", "aa")]))
        self.assertEqual(Desk(Drawer(()), "all").use("x"), 0)

    def test_looks_are_summed(self):
        desk = Desk(plain("abc"), "all")
        self.assertEqual([desk.use(heading) for heading in "cbcx"], [3, 3, 2, 3])
        self.assertEqual((desk.look_count, desk.contents), (11, plain("cba")))

    def test_no_walk_is_made(self):
        desk = Desk(Drawer((Card("b"), Card("a", see="b"))), "all")
        self.assertEqual(desk.use("a"), 2)
        self.assertEqual(desk.contents, Drawer((Card("a", see="b"), Card("b"))))

    def test_no_words(self):
        for word in NO_WORDS:
            desk = changed(plain("ab"))
            self.check_unchanged_by(InvalidHeading, desk, lambda: desk.use(word))


class FileAllTest(unittest.TestCase):

    def test_a_filed_drawer(self):
        for text in ("", "a", "abc", "aab", "abb"):
            desk = Desk(plain(text), "all")
            self.assertEqual(desk.file_all(), 0)
            self.assertEqual(state(desk), (plain(text), 0, [], [("file_all",)]))

    def test_a_drawer_that_is_not_filed(self):
        for text, many in (("ba", 2), ("cba", 2), ("cab", 3), ("acb", 2), ("bcad", 3), ("dabc", 4)):
            desk = Desk(plain(text), "all")
            self.assertEqual(desk.file_all(), many)
            self.assertEqual(state(desk), (filed(plain(text)), 0, [], [("file_all",)]))

    def test_cards_of_one_heading_stay_as_they_lay(self):
        drawer = Drawer((Card("b", (1,)), Card("b", (2,)), Card("a")))
        desk = Desk(drawer, "all")
        self.assertEqual(desk.file_all(), 3)
        self.assertEqual([card.books for card in desk.contents.cards], [(), (1,), (2,)])

    def test_equal_cards_are_others(self):
        desk = Desk(plain("bba"), "all")
        self.assertEqual(desk.file_all(), 3)
        self.assertEqual(Desk(plain("bab"), "all").file_all(), 2)


class KeepAndFetchTest(DeskCase):

    def test_a_new_name_and_one_that_is_kept(self):
        desk = Desk(plain("ab"), "all")
        self.assertIs(desk.keep_as("x"), False)
        self.assertIs(desk.keep_as("a"), False)
        self.assertIs(desk.keep_as("x"), True)
        told = (plain("ab"), 0, ["a", "x"], [("keep_as", "x"), ("keep_as", "a"), ("keep_as", "x")])
        self.assertEqual(state(desk), told)

    def test_names_that_are_no_words(self):
        for word in NO_WORDS:
            desk = changed(plain("ab"))
            self.check_unchanged_by(InvalidName, desk, lambda: desk.keep_as(word))

    def test_fetch_returns_to_drawer_and_looks(self):
        desk = Desk(plain("abc"), "all")
        desk.use("b")
        desk.keep_as("x")
        desk.use("c")
        desk.take(0)
        self.assertEqual((desk.look_count, desk.contents), (5, plain("ba")))
        self.assertEqual(desk.fetch("x"), 3)
        history = [("use", "b"), ("keep_as", "x"), ("use", "c"), ("take", 0), ("fetch", "x")]
        self.assertEqual(state(desk), (plain("bac"), 2, ["x"], history))
        self.assertEqual((desk.use("c"), desk.look_count), (3, 5))

    def test_what_was_kept_last_is_fetched(self):
        desk = Desk(plain("ab"), "all")
        desk.keep_as("x")
        desk.take(0)
        desk.keep_as("x")
        desk.take(0)
        self.assertEqual((desk.fetch("x"), desk.contents), (1, plain("b")))
        desk.undo()
        desk.undo()
        self.assertIs(desk.undo(), True)
        self.assertEqual((desk.kept, desk.fetch("x"), desk.contents), (["x"], 2, plain("ab")))

    def test_names_are_kept_by_fetch(self):
        desk = Desk(plain("ab"), "all")
        desk.keep_as("x")
        desk.keep_as("y")
        desk.take(0)
        desk.keep_as("y")
        desk.fetch("x")
        self.assertEqual(desk.kept, ["x", "y"])
        self.assertEqual((desk.fetch("y"), desk.contents), (1, plain("b")))

    def test_fetch_twice(self):
        desk = Desk(plain("ab"), "all")
        desk.keep_as("x")
        desk.take(0)
        self.assertEqual((desk.fetch("x"), desk.fetch("x"), desk.contents), (2, 2, plain("ab")))

    def test_names_that_are_unknown(self):
        for name in ("x", "", "A", "zebra", "third"):
            desk = changed(plain("ab"))
            self.check_unchanged_by(UnknownName, desk, lambda: desk.fetch(name))

    def test_a_name_whose_keeping_was_undone(self):
        desk = Desk(plain("ab"), "all")
        desk.keep_as("x")
        desk.undo()
        self.check_unchanged_by(UnknownName, desk, lambda: desk.fetch("x"))
        desk.redo()
        self.assertEqual((desk.kept, desk.fetch("x")), (["x"], 2))
        self.assertEqual(changed(plain("ab")).kept, ["first"])

    def test_an_empty_drawer(self):
        desk = Desk(Drawer(()), "all")
        desk.keep_as("x")
        desk.put(Card("a"), 0)
        self.assertEqual((desk.fetch("x"), desk.contents), (0, Drawer(())))


class UndoTest(DeskCase):

    def test_nothing_to_undo_or_redo(self):
        desk = Desk(plain("ab"), "all")
        self.assertIs(desk.undo(), False)
        self.assertIs(desk.redo(), False)
        self.assertEqual(state(desk), (plain("ab"), 0, [], []))

    def test_each_operation_alone(self):
        operations = (
            ("put", Card("x"), 1), ("take", 2), ("shift", 2, 0), ("use", "c"), ("use", "nothing"), ("file_all",),
            ("keep_as", "x"), ("keep_as", "zoo"), ("fetch", "zoo"),
        )
        for operation in operations:
            desk = Desk(plain("cba"), "all")
            desk.use("a")
            desk.keep_as("zoo")
            desk.use("b")
            before = state(desk)
            desk.apply_all([operation])
            behind = state(desk)
            self.assertEqual(behind[3], before[3] + [operation])
            for _ in range(2):
                self.assertIs(desk.undo(), True)
                self.assertEqual(state(desk), before)
                self.assertIs(desk.redo(), True)
                self.assertEqual(state(desk), behind)
            self.assertIs(desk.redo(), False)

    def test_through_all_operations_and_back(self):
        desk = Desk(plain("cba"), "half")
        states = [state(desk)]
        for operation in (
            ("use", "b"), ("keep_as", "x"), ("put", Card("d"), 3), ("shift", 0, 2), ("file_all",), ("fetch", "x"),
            ("take", 1), ("keep_as", "x"), ("use", "d"), ("fetch", "x"),
        ):
            desk.apply_all([operation])
            states.append(state(desk))
        for _ in range(2):
            for before in reversed(states[:-1]):
                self.assertIs(desk.undo(), True)
                self.assertEqual(state(desk), before)
            self.assertIs(desk.undo(), False)
            for behind in states[1:]:
                self.assertIs(desk.redo(), True)
                self.assertEqual(state(desk), behind)
            self.assertIs(desk.redo(), False)

    def test_no_redo_once_an_operation_was_executed(self):
        for operation in (("use", "nothing"), ("shift", 0, 0), ("file_all",), ("keep_as", "x")):
            desk = Desk(plain("abc"), "all")
            desk.take(0)
            desk.take(0)
            desk.undo()
            desk.undo()
            desk.redo()
            desk.apply_all([operation])
            self.assertIs(desk.redo(), False)
            self.assertEqual(desk.history, [("take", 0), operation])
            self.assertEqual(depths(desk), (2, 0))

    def test_redo_behind_an_error(self):
        desk = Desk(plain("abc"), "all")
        desk.take(1)
        desk.undo()
        calls = (
            lambda: desk.put(Card("x"), 4), lambda: desk.take(3), lambda: desk.shift(0, 3), lambda: desk.use(""),
            lambda: desk.keep_as(""), lambda: desk.fetch("x"), lambda: desk.apply_all([("undo", 1)]),
            lambda: desk.apply_all([("take", 0), ("take", 9)]), lambda: desk.tried([("take", 9)], True),
        )
        for call in calls:
            self.check_unchanged_by(SeeError, desk, call)
        self.assertIs(desk.redo(), True)
        self.assertEqual(state(desk), (plain("ac"), 0, [], [("take", 1)]))


class ApplyAllTest(DeskCase):

    def test_no_operations(self):
        desk = changed(plain("ab"))
        before = (state(desk), depths(desk))
        self.assertEqual(desk.apply_all([]), [])
        self.assertEqual((state(desk), depths(desk)), before)

    def test_results(self):
        desk = Desk(plain("cab"), "all")
        told = desk.apply_all([
            ("put", Card("d"), 3), ("take", 0), ("shift", 0, 1), ("use", "a"), ("file_all",), ("keep_as", "x"),
            ("keep_as", "x"), ("fetch", "x"),
        ])
        self.assertEqual(told, [4, "c", False, 2, 0, False, True, 3])
        self.assertEqual([value.__class__ for value in told], [int, str, bool, int, int, bool, bool, int])

    def test_undo_and_redo(self):
        desk = Desk(plain("ab"), "all")
        told = desk.apply_all([
            ("redo",), ("undo",), ("take", 0), ("undo",), ("redo",), ("redo",), ("undo",), ("undo",), ("take", 1),
        ])
        self.assertEqual(told, [False, False, "a", True, True, False, True, False, "b"])
        self.assertEqual((desk.contents, desk.history), (plain("a"), [("take", 1)]))
        self.assertEqual(desk.apply_all([("undo",)]), [True])
        self.assertEqual(desk.apply_all([("redo",)]), [True])

    def test_words_that_are_called_like_methods(self):
        desk = Desk(Drawer((Card("redo"), Card("undo"))), "all")
        told = desk.apply_all([("use", "undo"), ("use", "redo"), ("keep_as", "undo"), ("keep_as", "redo"), ("fetch", "undo")])
        self.assertEqual(told, [2, 2, False, False, 2])
        self.assertEqual((desk.kept, len(desk.history)), (["redo", "undo"], 5))

    def test_undo_of_what_was_there_before(self):
        desk = Desk(plain("ab"), "all")
        desk.take(0)
        self.assertEqual(desk.apply_all([("undo",), ("use", "b")]), [True, 2])
        self.assertEqual(state(desk), (plain("ba"), 2, [], [("use", "b")]))

    def test_one_that_fails_in_the_middle(self):
        rows = (
            (UnknownPlace, ("take", 9)), (UnknownPlace, ("put", Card("x"), 9)), (UnknownPlace, ("shift", 0, 9)),
            (InvalidHeading, ("use", "")), (InvalidName, ("keep_as", "")), (UnknownName, ("fetch", "gone")),
        )
        for error, operation in rows:
            for ahead in ([], [("take", 0)], [("undo",), ("undo",), ("keep_as", "x"), ("use", "a")], [("redo",)]):
                for behind in ([], [("undo",)], [("take", 9)]):
                    desk = changed(plain("ab"))
                    self.check_unchanged_by(error, desk, lambda: desk.apply_all(ahead + [operation] + behind))
        desk = Desk(plain("a" * 16), "all")
        self.check_unchanged_by(InvalidDrawer, desk, lambda: desk.apply_all([("take", 0)] + [("put", Card("x"), 0)] * 2))

    def test_invalid_operations(self):
        for wrong in NO_OPERATIONS:
            for ahead in ([], [("take", 0)], [("take", 99), ("use", "")]):
                desk = changed(plain("ab"))
                calls = (
                    lambda: desk.apply_all(ahead + [wrong]), lambda: desk.apply_all(ahead + [wrong, ("take", 99), ()]),
                    lambda: desk.tried(ahead + [wrong], True), lambda: desk.tried(ahead + [wrong, ()], False),
                )
                for call in calls:
                    error = self.check_unchanged_by(InvalidOperation, desk, call)
                    self.assertEqual(error.index, len(ahead))

    def test_arguments_are_left_to_the_operations(self):
        desk = Desk(plain("ab"), "all")
        self.check_unchanged_by(UnknownPlace, desk, lambda: desk.apply_all([("take", "a")]))
        self.check_unchanged_by(InvalidHeading, desk, lambda: desk.apply_all([("use", None)]))

    def test_the_list_is_not_modified_or_kept(self):
        operations = [("take", 0), ("undo",), ("use", "b")]
        desk = Desk(plain("ab"), "all")
        told = desk.apply_all(operations)
        self.assertEqual(operations, [("take", 0), ("undo",), ("use", "b")])
        operations.clear()
        told.clear()
        self.assertEqual(state(desk), (plain("ba"), 2, [], [("use", "b")]))

    def test_lists_that_are_changed_leave_the_desk_as_it_is(self):
        desk = changed(plain("ab"))
        before = (state(desk), depths(desk))
        for told in (desk.history, desk.kept):
            told.append(("take", 0))
            told.clear()
        self.assertEqual((state(desk), depths(desk)), before)
        self.assertIsNot(desk.history, desk.history)
        self.assertIsNot(desk.kept, desk.kept)


class ReplayTest(unittest.TestCase):

    def test_the_errors_of_a_desk_come_first(self):
        for rule in NO_RULES:
            with self.assertRaises(InvalidRule):
                Desk.replay(plain("a"), rule, [()])

    def test_the_errors_of_apply_all(self):
        with self.assertRaises(InvalidOperation) as caught:
            Desk.replay(plain("a"), "all", [("take", 9), ("take",)])
        self.assertEqual(caught.exception.index, 1)
        with self.assertRaises(UnknownPlace):
            Desk.replay(plain("a"), "all", [("take", 0), ("take", 0)])

    def test_no_operations(self):
        self.assertEqual(state(Desk.replay(plain("ab"), "all", [])), (plain("ab"), 0, [], []))

    def test_a_desks_own_history(self):
        desk = changed(plain("ba"), "half")
        desk.fetch("first")
        other = Desk.replay(plain("ba"), "half", desk.history)
        self.assertIs(other.__class__, Desk)
        self.assertEqual(state(other), state(desk))
        self.assertEqual(depths(other), (len(desk.history), 0))
        other.take(0)
        self.assertNotEqual(state(other), state(desk))

    def test_undo_among_the_operations(self):
        desk = Desk.replay(plain("ab"), "all", [("take", 0), ("take", 0), ("undo",)])
        self.assertEqual(state(desk), (plain("b"), 0, [], [("take", 0)]))
        self.assertIs(desk.redo(), True)
        self.assertEqual(desk.contents, Drawer(()))


class TrialTest(DeskCase):

    def test_without_hold(self):
        desk = changed(plain("ab"))
        before = (state(desk), depths(desk))
        with Trial(desk) as trial:
            self.assertIs(trial.__class__, Trial)
            desk.undo()
            desk.use("a")
            desk.keep_as("x")
            desk.take(0)
            self.assertEqual(desk.kept, ["first", "x"])
        self.assertEqual((state(desk), depths(desk)), before)

    def test_with_hold(self):
        for first in (True, False):
            desk = Desk(plain("ab"), "all")
            with Trial(desk) as trial:
                if first:
                    trial.hold()
                desk.take(0)
                if not first:
                    trial.hold()
                desk.use("b")
            self.assertEqual(state(desk), (plain("b"), 1, [], [("take", 0), ("use", "b")]))
            self.assertEqual(depths(desk), (2, 0))

    def test_a_block_begins_where_it_stands(self):
        desk = Desk(plain("abc"), "all")
        trial = Trial(desk)
        desk.take(0)
        trial.hold()
        with trial:
            desk.take(0)
        self.assertEqual(desk.contents, plain("bc"))
        trial.hold()
        desk.take(0)
        with trial:
            desk.take(0)
        self.assertEqual((desk.contents, desk.history), (plain("c"), [("take", 0), ("take", 0)]))

    def test_an_empty_block(self):
        desk = changed(plain("ab"))
        before = (state(desk), depths(desk))
        with Trial(desk):
            pass
        with Trial(desk) as trial:
            trial.hold()
        self.assertEqual((state(desk), depths(desk)), before)

    def test_undo_and_redo_within_a_block(self):
        desk = Desk(plain("abc"), "all")
        desk.take(0)
        desk.take(0)
        desk.undo()
        with Trial(desk):
            self.assertEqual([desk.undo(), desk.undo(), desk.contents], [True, False, plain("abc")])
        self.assertEqual((desk.contents, depths(desk)), (plain("bc"), (1, 1)))
        with Trial(desk):
            self.assertEqual([desk.redo(), desk.redo(), desk.contents], [True, False, plain("c")])
        self.assertEqual((desk.contents, depths(desk)), (plain("bc"), (1, 1)))
        with Trial(desk):
            desk.file_all()
            self.assertIs(desk.redo(), False)
        self.assertEqual((desk.contents, depths(desk)), (plain("bc"), (1, 1)))
        with Trial(desk) as trial:
            desk.undo()
            trial.hold()
        self.assertEqual((desk.contents, depths(desk)), (plain("abc"), (0, 2)))

    def test_a_block_that_ends_by_an_error(self):
        for held in (False, True):
            desk = changed(plain("ab"))
            before = (state(desk), depths(desk))
            with self.assertRaises(KeyError):
                with Trial(desk) as trial:
                    desk.take(0)
                    if held:
                        trial.hold()
                    raise KeyError("x")
            self.assertEqual((state(desk), depths(desk)) == before, not held)
        desk = changed(plain("ab"))
        before = (state(desk), depths(desk))
        with self.assertRaises(UnknownPlace):
            with Trial(desk):
                desk.take(0)
                desk.take(9)
        self.assertEqual((state(desk), depths(desk)), before)

    def test_trials_within_trials(self):
        for outer, inner, text in ((0, 0, "abc"), (0, 1, "abc"), (1, 0, "bc"), (1, 1, "c")):
            desk = Desk(plain("abc"), "all")
            with Trial(desk) as first:
                desk.take(0)
                with Trial(desk) as second:
                    desk.take(0)
                    if inner:
                        second.hold()
                self.assertEqual(desk.contents, plain("c" if inner else "bc"))
                if outer:
                    first.hold()
            self.assertEqual(desk.contents, plain(text))
            self.assertEqual(depths(desk), (3 - len(text), 0))

    def test_two_desks(self):
        desk, other = Desk(plain("ab"), "all"), Desk(plain("ab"), "all")
        with Trial(desk):
            desk.take(0)
            other.take(1)
        self.assertEqual((desk.contents, other.contents), (plain("ab"), plain("a")))


class TriedTest(DeskCase):

    def test_what_is_kept(self):
        desk = Desk(plain("ab"), "all")
        operations = [("take", 0), ("use", "b"), ("undo",), ("keep_as", "x")]
        self.assertEqual(desk.tried(operations, True), ["a", 1, True, False])
        self.assertEqual(state(desk), (plain("b"), 0, ["x"], [("take", 0), ("keep_as", "x")]))
        self.assertEqual(depths(desk), (2, 0))
        self.assertEqual(operations, [("take", 0), ("use", "b"), ("undo",), ("keep_as", "x")])

    def test_what_is_not_kept(self):
        rows = (
            ([], []), ([("take", 0), ("use", "a"), ("undo",), ("keep_as", "x")], ["zebra", 1, True, False]),
            ([("undo",)] * 4, [True, True, True, False]), ([("redo",)] * 4, [True, True, False, False]),
        )
        for operations, told in rows:
            desk = changed(plain("ab"))
            before = (state(desk), depths(desk))
            self.assertEqual(before[1], (3, 2))
            self.assertEqual(desk.tried(operations, False), told)
            self.assertEqual((state(desk), depths(desk)), before)

    def test_an_operation_that_fails(self):
        for keep in (True, False):
            desk = changed(plain("ab"))
            self.check_unchanged_by(UnknownPlace, desk, lambda: desk.tried([("take", 0), ("take", 9)], keep))
            self.check_unchanged_by(UnknownName, desk, lambda: desk.tried([("undo",), ("fetch", "gone")], keep))


class ReferenceTest(unittest.TestCase):

    def some_operation(self, dice, many):
        """Return an operation on so many cards, which can fail now and then."""
        kind = dice.throw(12)
        if kind < 3 and many < 16 or many == 0:
            return ("put", some_card(dice, "abcd"), dice.throw(many + 1 + (dice.throw(5) == 0)))
        if kind < 4:
            return ("take", dice.throw(many + (dice.throw(5) == 0)))
        if kind < 6:
            return ("shift", dice.throw(many), dice.throw(many + (dice.throw(5) == 0)))
        if kind < 9:
            return ("use", "abcdeA"[dice.throw(6)])
        if kind == 9:
            return ("file_all",)
        return (("keep_as", "fetch")[kind - 10], "xyzX"[dice.throw(4)])

    def check(self, desk, drawer, rule, done):
        """Check that a desk is as it is behind just these operations."""
        cards, looks, kept, results = reference.desk_after(drawer, rule, done)
        self.assertEqual(state(desk), (Drawer(cards), looks, kept, done))
        return results[-1] if results else None

    def test_against_the_reference(self):
        dice = Dice(17)
        failed, redone = 0, 0
        for drawer in some_drawers(60, 10, "abcd"):
            rule = RULES[dice.throw(3)]
            desk, done, undone = Desk(drawer, rule), [], []
            for _ in range(40):
                kind = dice.throw(6)
                if kind == 0:
                    self.assertIs(desk.undo(), bool(done))
                    undone += done[-1:]
                    done = done[:-1]
                elif kind == 1:
                    self.assertIs(desk.redo(), bool(undone))
                    redone += bool(undone)
                    done = done + undone[-1:]
                    undone = undone[:-1]
                else:
                    operation = self.some_operation(dice, len(desk.contents))
                    try:
                        results = desk.apply_all([operation])
                    except SeeError:
                        failed += 1
                    else:
                        done, undone = done + [operation], []
                        self.assertEqual(results, [self.check(desk, drawer, rule, done)])
                self.check(desk, drawer, rule, done)
                self.assertEqual(depths(desk), (len(done), len(undone)))
            self.assertEqual(state(Desk.replay(drawer, rule, done)), state(desk))
        self.assertGreater(min(failed, redone), 50)


if __name__ == "__main__":
    unittest.main()
