"""What holds for the whole package: point 1."""

import importlib
import unittest

from seerings.cards import Card
from seerings.drawers import Drawer, filed, is_filed
from seerings.errors import InvalidDrawer, SeeError, UnknownPlace
from seerings.gathering import (
    also_rings, fewest_headings, gather, hidden, leads_to, least_patience, reach,
)
from seerings.joining import best_split, joined, lost_by_split, split, still_found
from seerings.lookups import look_up, never_found, why_not
from seerings.losing import cuts, least_loss, safe_books
from seerings.mending import mend
from seerings.misfiling import misplaced, possible_orders
from seerings.ordering import fewest_moves, out_of_order
from seerings.sharing import best_turns, shared_fronts, shared_looks
from seerings.traces import difference, judged, next_heading, possible_losses, possible_rules
from seerings.using import best_order, cost, first_in_front, used, used_far, worth_filing
from seerings.walks import dearest, landings, looks, see_rings, walk

from tests.made import RULES, WAYS, some_drawers

# What the interface lists under each file, as far as it has landed.
INTERFACE = {
    "errors": "SeeError InvalidCard InvalidDrawer UnknownPlace InvalidRule InvalidHeading InvalidWay InvalidNumber "
              "InvalidLog NoLoss InvalidTally NoOrder InvalidRequests InvalidRows InvalidName UnknownName "
              "InvalidOperation NoPair Ended InvalidText DecodeError ScriptError ExecutionFailed TooLong",
    "cards": "Card", "drawers": "Drawer filed is_filed", "lookups": "look_up never_found why_not",
    "ordering": "out_of_order fewest_moves", "walks": "walk looks landings see_rings dearest",
    "gathering": "gather reach hidden least_patience fewest_headings leads_to also_rings", "mending": "mend",
    "losing": "cuts least_loss safe_books",
    "traces": "possible_losses judged next_heading difference possible_rules",
    "joining": "joined still_found split lost_by_split best_split", "misfiling": "possible_orders misplaced",
    "using": "used used_far first_in_front cost best_order worth_filing",
    "sharing": "shared_looks shared_fronts best_turns",
}


class InterfaceTest(unittest.TestCase):

    def test_all_is_defined_in_its_own_file(self):
        for file, names in INTERFACE.items():
            module = importlib.import_module("seerings." + file)
            for name in names.split():
                self.assertEqual(getattr(module, name).__module__, module.__name__, name)


def a_drawer():
    return Drawer((Card("tram", books=(1, 4), also=("bus",)), Card("bus"), Card("rail", see="tram"), Card("bus", (7,))))


class CardsAndDrawersTest(unittest.TestCase):

    def test_arguments_are_not_modified(self):
        books, also, places = (1, 4), ("bus", "ship"), (2, 0)
        card = Card("tram", books, "", also)
        cards = (card, Card("bus"), Card("rail", see="tram"))
        drawer = Drawer(cards)
        drawer.without(places)
        drawer.moved(0, 2)
        filed(drawer)
        is_filed(drawer)
        self.assertEqual((books, also, places), ((1, 4), ("bus", "ship"), (2, 0)))
        self.assertEqual(cards, (Card("tram", (1, 4), "", ("bus", "ship")), Card("bus"), Card("rail", see="tram")))
        self.assertEqual(drawer, Drawer(cards))

    def test_a_call_that_raises_an_error_changes_nothing(self):
        drawer = a_drawer()
        for wrong in (4, -1, True):
            with self.assertRaises(UnknownPlace):
                drawer.moved(0, wrong)
            with self.assertRaises(UnknownPlace):
                drawer.without((0, wrong))
            with self.assertRaises(UnknownPlace):
                drawer[wrong]
        with self.assertRaises(InvalidDrawer):
            Drawer(drawer.cards * 5)
        with self.assertRaises(TypeError):
            list(drawer)
        self.assertEqual(drawer, a_drawer())

    def test_repeated_calls_return_equal_results(self):
        drawer = a_drawer()
        calls = (
            lambda: drawer.cards, lambda: drawer.headings, lambda: drawer[2], lambda: len(drawer),
            lambda: drawer.without((1,)), lambda: drawer.moved(3, 0), lambda: filed(drawer), lambda: is_filed(drawer),
        )
        for call in calls:
            self.assertEqual(call(), call())

    def test_a_boolean_is_not_an_integer(self):
        wrong = (
            lambda: Card("tram", books=(True,)), lambda: a_drawer()[True], lambda: a_drawer()[False],
            lambda: a_drawer().without((True,)), lambda: a_drawer().moved(True, 0), lambda: a_drawer().moved(0, False),
        )
        for call in wrong:
            with self.assertRaises(SeeError):
                call()


def answers(drawer):
    """Return all that the functions of a drawer answer, by each rule and each way."""
    told = [out_of_order(drawer)]
    for rule in RULES:
        told += [never_found(drawer, rule), fewest_moves(drawer, rule, 2), landings(drawer, rule)]
        told += [see_rings(drawer, rule), dearest(drawer, rule), fewest_headings(drawer, rule)]
        told += [also_rings(drawer, rule), hidden(drawer, rule, ("bus", "rail"))]
        for place in range(len(drawer)):
            told += [why_not(drawer, rule, place), leads_to(drawer, rule, place)]
        for heading in ("bus", "rail", "a", "x"):
            told += [look_up(drawer, rule, heading), walk(drawer, rule, heading), looks(drawer, rule, heading)]
            told += [reach(drawer, rule, heading)]
            for way in WAYS:
                told += [gather(drawer, rule, way, heading, 9), least_patience(drawer, rule, way, heading, 4)]
    return told + answers_of_losses(drawer) + answers_of_use(drawer)


def answers_of_losses(drawer):
    """Return what is told of mending and losing, and of what was lost."""
    told = [possible_rules(drawer, []), possible_rules(drawer, [("bus", 1)]), difference(drawer, "all", "half")]
    for rule in RULES:
        for heading in ("bus", "a"):
            told += [mend(drawer, rule, (heading,), 2), cuts(drawer, rule, heading, 4)]
            told += [least_loss(drawer, rule, heading, 4), safe_books(drawer, rule, heading, 1)]
        for log in ([], [("a", ()), ("bus", ())]):
            told += [possible_losses(drawer, rule, log, 2), next_heading(drawer, rule, log, 2)]
        told += [judged(drawer, rule, [], 2, place) for place in range(len(drawer))]
    return told


def answers_of_use(drawer):
    """Return what is told of joining and splitting, of misfiled cards, and of putting in front."""
    other = Drawer(drawer.cards[:3])
    requests, rows = ("bus", "a", "x", "rail"), (("bus", "a"), ("rail",), ())
    told = [joined(drawer, other), *split(drawer, "c"), best_order(drawer, requests)]
    for rule in RULES:
        told += [still_found(drawer, other, rule), lost_by_split(drawer, rule, "c"), best_split(drawer, rule)]
        told += [possible_orders(drawer, rule, [("x", 1)], 2), misplaced(drawer, rule, [], 1)]
        told += [used(drawer, rule, requests), used_far(drawer, rule, requests, 10 ** 9), cost(drawer, rule, requests)]
        told += [first_in_front(drawer, rule, requests, place) for place in range(len(drawer))]
        told += [worth_filing(drawer, rule, requests), shared_looks(drawer, rule, rows)]
        told += [shared_fronts(drawer, rule, rows), best_turns(drawer, rule, rows)]
    return told


def spoil(value):
    """Empty a list or a dict that was returned."""
    if isinstance(value, (list, dict)):
        value.clear()


class FunctionsTest(unittest.TestCase):

    def test_arguments_are_not_modified(self):
        for drawer in [a_drawer(), *some_drawers(20, 6)]:
            cards = drawer.cards
            copies = tuple(Card(card.heading, card.books, card.see, card.also) for card in cards)
            answers(drawer)
            self.assertEqual(cards, copies)
            self.assertEqual(drawer, Drawer(copies))

    def test_repeated_calls_return_equal_results_whatever_the_caller_does_to_them(self):
        for drawer in [a_drawer(), Drawer(()), *some_drawers(20, 6)]:
            first, second = answers(drawer), answers(drawer)
            self.assertEqual(first, second)
            for value in first:
                spoil(value)
            self.assertEqual(answers(drawer), second)
            self.assertEqual(answers(Drawer(drawer.cards)), second)

    def test_kinds_of_values(self):
        drawer = a_drawer()
        kinds = (
            (look_up(drawer, "all", "bus"), tuple), (look_up(drawer, "all", "bus")[1], tuple),
            (never_found(drawer, "all"), list), (why_not(drawer, "all", 3), tuple), (out_of_order(drawer), tuple),
            (fewest_moves(drawer, "leaf", 2), list), (walk(drawer, "all", "bus"), tuple),
            (walk(drawer, "all", "bus")[1], tuple), (looks(drawer, "all", "bus"), int),
            (landings(drawer, "all"), dict), (see_rings(drawer, "all"), list), (dearest(drawer, "all"), tuple),
            (gather(drawer, "all", "deep", "bus", 1), tuple), (reach(drawer, "all", "bus"), tuple),
            (hidden(drawer, "all", ()), list), (least_patience(drawer, "all", "deep", "tram", 4), int),
            (fewest_headings(drawer, "all"), tuple), (leads_to(drawer, "all", 0), list),
            (also_rings(drawer, "all"), list), (mend(drawer, "all", ("bus",), 0), type(None)),
            (mend(drawer, "all", (), 0), list), (cuts(drawer, "all", "bus", 7), list),
            (least_loss(drawer, "all", "bus", 7), tuple), (safe_books(drawer, "all", "bus", 0), tuple),
            (possible_losses(drawer, "all", [], 1), list), (possible_losses(drawer, "all", [], 1)[0], tuple),
            (judged(drawer, "all", [], 1, 0), str), (next_heading(drawer, "all", [], 1), str),
            (difference(drawer, "all", "leaf"), str), (possible_rules(drawer, []), list),
            (joined(drawer, drawer), Drawer), (still_found(drawer, drawer, "all"), list),
            (split(drawer, "c"), tuple), (split(drawer, "c")[0], Drawer), (lost_by_split(drawer, "all", "c"), list),
            (best_split(drawer, "all"), str), (possible_orders(drawer, "all", [], 1), list),
            (possible_orders(drawer, "all", [], 1)[0], tuple), (misplaced(drawer, "all", [], 0), list),
            (used(drawer, "all", ()), tuple), (used(drawer, "all", ())[0], Drawer),
            (used_far(drawer, "all", ("bus",), 9), tuple), (used_far(drawer, "all", ("bus",), 9)[1], int),
            (first_in_front(drawer, "all", ("bus",), 1), tuple), (cost(drawer, "all", ("bus",)), int),
            (best_order(drawer, ("bus",)), tuple), (best_order(drawer, ("bus",))[1], tuple),
            (worth_filing(drawer, "all", ()), str), (shared_looks(drawer, "all", ((),)), tuple),
            (shared_fronts(drawer, "all", ((),)), list), (best_turns(drawer, "all", ((),)), tuple),
        )
        for value, kind in kinds:
            self.assertIs(value.__class__, kind)

    def test_a_call_that_raises_an_error_changes_nothing(self):
        drawer = a_drawer()
        before = answers(drawer)
        wrong = (
            lambda: look_up(drawer, "all", ""), lambda: never_found(drawer, ""), lambda: why_not(drawer, "all", 4),
            lambda: fewest_moves(drawer, "all", 3), lambda: walk(drawer, "", "bus"), lambda: looks(drawer, "all", "1"),
            lambda: landings(drawer, ""), lambda: gather(drawer, "all", "deep", "bus", 0),
            lambda: hidden(drawer, "all", ("bus", "")), lambda: leads_to(drawer, "all", True),
            lambda: fewest_moves(drawer, "all", True), lambda: gather(drawer, "all", "deep", "bus", True),
            lambda: mend(drawer, "all", ("bus",), True), lambda: mend(drawer, "all", ("bus", ""), 1),
            lambda: cuts(drawer, "all", "", 1), lambda: least_loss(drawer, "", "bus", 1),
            lambda: safe_books(drawer, "all", "bus", True), lambda: possible_losses(drawer, "all", [], True),
            lambda: judged(drawer, "all", [], 1, True), lambda: judged(drawer, "all", [("x", (1,))], 1, 0),
            lambda: next_heading(drawer, "all", [("", ())], 1), lambda: difference(drawer, "all", ""),
            lambda: possible_rules(drawer, [("bus", 1), ("", 1)]),
            lambda: joined(drawer, Drawer(drawer.cards * 4)), lambda: still_found(drawer, drawer, ""),
            lambda: split(drawer, ""), lambda: lost_by_split(drawer, "all", ""), lambda: best_split(drawer, ""),
            lambda: possible_orders(drawer, "all", [], True), lambda: misplaced(drawer, "all", [("x", 99)], 2),
            lambda: used(drawer, "all", ("bus", "")), lambda: used_far(drawer, "all", ("bus",), True),
            lambda: first_in_front(drawer, "all", ("bus",), True), lambda: cost(drawer, "all", ("bus",) * 13),
            lambda: best_order(drawer, ("bus", "")), lambda: worth_filing(drawer, "all", ("bus", "")),
            lambda: shared_looks(drawer, "all", (("bus",),) * 4), lambda: shared_fronts(drawer, "all", (("bus", ""),)),
            lambda: best_turns(drawer, "all", ()),
        )
        for call in wrong:
            with self.assertRaises(SeeError):
                call()
        self.assertEqual(answers(drawer), before)


if __name__ == "__main__":
    unittest.main()
