"""What holds for the whole package: point 1."""

import importlib
import inspect
import unittest

from seerings.cards import Card
from seerings.codec import decode_drawer, encode_drawer
from seerings.desks import Desk, Trial
from seerings.drawers import Drawer, filed, is_filed
from seerings.errors import InvalidDrawer, SeeError, UnknownPlace
from seerings.gathering import (
    also_rings, fewest_headings, gather, hidden, leads_to, least_patience, reach,
)
from seerings.joining import best_split, joined, lost_by_split, split, still_found
from seerings.lookups import look_up, never_found, why_not
from seerings.losing import cuts, least_loss, safe_books
from seerings.mending import mend
from seerings.misfiling import misplaced, possible_orders
from seerings.notation import format_drawer, parse_drawer
from seerings.observers import Observer
from seerings.ordering import fewest_moves, out_of_order
from seerings.scripts import run_script
from seerings.sharing import best_turns, shared_fronts, shared_looks
from seerings.tables import strip, table
from seerings.traces import difference, judged, next_heading, possible_losses, possible_rules
from seerings.using import best_order, cost, first_in_front, used, used_far, worth_filing
from seerings.walks import dearest, landings, looks, see_rings, walk
from seerings.wearing import first_fallen, served

from tests.made import RULES, WAYS, some_drawers

ERRORS = (
    "SeeError", "InvalidCard", "InvalidDrawer", "UnknownPlace", "InvalidRule", "InvalidHeading", "InvalidWay",
    "InvalidNumber", "InvalidLog", "NoLoss", "InvalidTally", "NoOrder", "InvalidRequests", "InvalidRows", "InvalidName",
    "UnknownName", "InvalidOperation", "NoPair", "Ended", "InvalidText", "DecodeError", "ScriptError",
    "ExecutionFailed", "TooLong",
)
# What the interface lists under each file.
INTERFACE = {
    "cards": ("Card(heading, books=(), see='', also=())",),
    "drawers": ("Drawer(cards)", "filed(drawer)", "is_filed(drawer)"),
    "lookups": ("look_up(drawer, rule, heading)", "never_found(drawer, rule)", "why_not(drawer, rule, place)"),
    "ordering": ("out_of_order(drawer)", "fewest_moves(drawer, rule, most)"),
    "walks": (
        "walk(drawer, rule, heading)", "looks(drawer, rule, heading)", "landings(drawer, rule)",
        "see_rings(drawer, rule)", "dearest(drawer, rule)",
    ),
    "gathering": (
        "gather(drawer, rule, way, heading, patience)", "reach(drawer, rule, heading)",
        "hidden(drawer, rule, headings)", "least_patience(drawer, rule, way, heading, book)",
        "fewest_headings(drawer, rule)", "leads_to(drawer, rule, place)", "also_rings(drawer, rule)",
    ),
    "mending": ("mend(drawer, rule, headings, most)",),
    "losing": (
        "cuts(drawer, rule, heading, book)", "least_loss(drawer, rule, heading, book)",
        "safe_books(drawer, rule, heading, count)",
    ),
    "traces": (
        "possible_losses(drawer, rule, log, most)", "judged(drawer, rule, log, most, place)",
        "next_heading(drawer, rule, log, most)", "difference(drawer, one, other)", "possible_rules(drawer, counts)",
    ),
    "joining": (
        "joined(one, other)", "still_found(one, other, rule)", "split(drawer, heading)",
        "lost_by_split(drawer, rule, heading)", "best_split(drawer, rule)",
    ),
    "misfiling": ("possible_orders(drawer, rule, tally, most)", "misplaced(drawer, rule, tally, most)"),
    "using": (
        "used(drawer, rule, requests)", "used_far(drawer, rule, requests, count)",
        "first_in_front(drawer, rule, requests, place)", "cost(drawer, rule, requests)",
        "best_order(drawer, requests)", "worth_filing(drawer, rule, requests)",
    ),
    "sharing": (
        "shared_looks(drawer, rule, rows)", "shared_fronts(drawer, rule, rows)", "best_turns(drawer, rule, rows)",
    ),
    "wearing": ("served(drawer, rule, requests, strength)", "first_fallen(drawer, rule, requests, strength)"),
    "desks": ("Desk(drawer, rule)", "Trial(desk)"),
    "observers": ("Observer(drawer, rules, headings)",),
    "tables": ("table(drawer, rule)", "strip(drawer)"),
    "notation": ("format_drawer(drawer)", "parse_drawer(text)"),
    "codec": ("encode_drawer(drawer)", "decode_drawer(values)"),
    "scripts": ("run_script(drawer, text)",),
}
# What the interface lists for each class: properties by their names alone, methods by what is passed to them.
CLASSES = {
    Card: ("heading", "books", "see", "also", "leads", "__eq__(other)"),
    Drawer: (
        "cards", "headings", "without(places)", "moved(place, other)", "__getitem__(place)", "__len__()",
        "__eq__(other)",
    ),
    Desk: (
        "contents", "look_count", "kept", "history", "put(card, place)", "use(heading)", "file_all()", "fetch(name)",
        "take(place)", "shift(place, other)", "keep_as(name)", "undo()", "redo()", "apply_all(operations)",
        "tried(operations, keep)", "replay(drawer, rule, operations)",
    ),
    Trial: ("hold()", "__enter__()", "__exit__(kind, value, trace)"),
    Observer: (
        "pairs", "places", "is_closed", "saw(place)", "ended()", "next_places()", "could_find()", "most_looks()",
    ),
}


class InterfaceTest(unittest.TestCase):

    def test_all_errors_are_defined_in_their_file(self):
        module = importlib.import_module("seerings.errors")
        for name in ERRORS:
            self.assertEqual(getattr(module, name).__module__, module.__name__, name)
            self.assertTrue(issubclass(getattr(module, name), SeeError), name)

    def test_all_is_defined_in_its_own_file(self):
        for file, rows in INTERFACE.items():
            module = importlib.import_module("seerings." + file)
            for row in rows:
                name = row.split("(")[0]
                value = getattr(module, name)
                self.assertEqual(value.__module__, module.__name__, name)
                self.assertEqual(name + str(inspect.signature(value)), row)

    def test_all_of_a_class_is_defined_in_itself(self):
        for kind, rows in CLASSES.items():
            thing = {Card: lambda: Card("a"), Trial: lambda: Trial(Desk(a_drawer(), "all")),
                     Drawer: a_drawer, Desk: lambda: Desk(a_drawer(), "all"),
                     Observer: lambda: Observer(a_drawer(), ("all",), ("a",))}[kind]()
            for row in rows:
                name = row.split("(")[0]
                self.assertIn(name, vars(kind))
                if "(" in row:
                    self.assertEqual(name + str(inspect.signature(getattr(thing, name))), row)
                else:
                    self.assertIsInstance(vars(kind)[name], property)


def a_drawer():
    return Drawer((Card("tram", books=(1, 4), also=("bus",)), Card("bus"), Card("rail", see="tram"), Card("bus", (7,))))


class CardsAndDrawersTest(unittest.TestCase):

    def test_arguments_are_not_modified(self):
        books, also, places = (1, 4), ("bus", "ship"), (2, 0)
        card = Card("tram", books, "", also)
        cards = (card, Card("bus"), Card("rail", see="tram"))
        drawer = Drawer(cards)
        drawer.without(places)
        drawer.moved(0, 2)
        filed(drawer)
        is_filed(drawer)
        self.assertEqual((books, also, places), ((1, 4), ("bus", "ship"), (2, 0)))
        self.assertEqual(cards, (Card("tram", (1, 4), "", ("bus", "ship")), Card("bus"), Card("rail", see="tram")))
        self.assertEqual(drawer, Drawer(cards))

    def test_a_call_that_raises_an_error_changes_nothing(self):
        drawer = a_drawer()
        for wrong in (4, -1, True):
            with self.assertRaises(UnknownPlace):
                drawer.moved(0, wrong)
            with self.assertRaises(UnknownPlace):
                drawer.without((0, wrong))
            with self.assertRaises(UnknownPlace):
                drawer[wrong]
        with self.assertRaises(InvalidDrawer):
            Drawer(drawer.cards * 5)
        with self.assertRaises(TypeError):
            list(drawer)
        self.assertEqual(drawer, a_drawer())

    def test_repeated_calls_return_equal_results(self):
        drawer = a_drawer()
        calls = (
            lambda: drawer.cards, lambda: drawer.headings, lambda: drawer[2], lambda: len(drawer),
            lambda: drawer.without((1,)), lambda: drawer.moved(3, 0), lambda: filed(drawer), lambda: is_filed(drawer),
        )
        for call in calls:
            self.assertEqual(call(), call())

    def test_a_boolean_is_not_an_integer(self):
        wrong = (
            lambda: Card("tram", books=(True,)), lambda: a_drawer()[True], lambda: a_drawer()[False],
            lambda: a_drawer().without((True,)), lambda: a_drawer().moved(True, 0), lambda: a_drawer().moved(0, False),
        )
        for call in wrong:
            with self.assertRaises(SeeError):
                call()


def answers(drawer):
    """Return all that the functions of a drawer answer, by each rule and each way."""
    told = [out_of_order(drawer)]
    for rule in RULES:
        told += [never_found(drawer, rule), fewest_moves(drawer, rule, 2), landings(drawer, rule)]
        told += [see_rings(drawer, rule), dearest(drawer, rule), fewest_headings(drawer, rule)]
        told += [also_rings(drawer, rule), hidden(drawer, rule, ("bus", "rail"))]
        for place in range(len(drawer)):
            told += [why_not(drawer, rule, place), leads_to(drawer, rule, place)]
        for heading in ("bus", "rail", "a", "x"):
            told += [look_up(drawer, rule, heading), walk(drawer, rule, heading), looks(drawer, rule, heading)]
            told += [reach(drawer, rule, heading)]
            for way in WAYS:
                told += [gather(drawer, rule, way, heading, 9), least_patience(drawer, rule, way, heading, 4)]
    return told + answers_of_losses(drawer) + answers_of_use(drawer) + answers_of_texts(drawer)


def answers_of_losses(drawer):
    """Return what is told of mending and losing, and of what was lost."""
    told = [possible_rules(drawer, []), possible_rules(drawer, [("bus", 1)]), difference(drawer, "all", "half")]
    for rule in RULES:
        for heading in ("bus", "a"):
            told += [mend(drawer, rule, (heading,), 2), cuts(drawer, rule, heading, 4)]
            told += [least_loss(drawer, rule, heading, 4), safe_books(drawer, rule, heading, 1)]
        for log in ([], [("a", ()), ("bus", ())]):
            told += [possible_losses(drawer, rule, log, 2), next_heading(drawer, rule, log, 2)]
        told += [judged(drawer, rule, [], 2, place) for place in range(len(drawer))]
    return told


def answers_of_use(drawer):
    """Return what is told of joining and splitting, of misfiled cards, and of putting in front."""
    other = Drawer(drawer.cards[:3])
    requests, rows = ("bus", "a", "x", "rail"), (("bus", "a"), ("rail",), ())
    told = [joined(drawer, other), *split(drawer, "c"), best_order(drawer, requests)]
    for rule in RULES:
        told += [still_found(drawer, other, rule), lost_by_split(drawer, rule, "c"), best_split(drawer, rule)]
        told += [possible_orders(drawer, rule, [("x", 1)], 2), misplaced(drawer, rule, [], 1)]
        told += [used(drawer, rule, requests), used_far(drawer, rule, requests, 10 ** 9), cost(drawer, rule, requests)]
        told += [first_in_front(drawer, rule, requests, place) for place in range(len(drawer))]
        told += [worth_filing(drawer, rule, requests), shared_looks(drawer, rule, rows)]
        told += [shared_fronts(drawer, rule, rows), best_turns(drawer, rule, rows)]
    return told


def answers_of_texts(drawer):
    """Return what is told of wear, of a live drawer and who is watched, and in tables, texts, codes and scripts."""
    told = [strip(drawer), format_drawer(drawer), parse_drawer(format_drawer(drawer))]
    told += [encode_drawer(drawer), decode_drawer(encode_drawer(drawer))]
    for rule in RULES:
        desk = Desk.replay(drawer, rule, [("keep_as", "x"), ("use", "bus"), ("put", Card("a"), 0), ("undo",)])
        watch = Observer(drawer, (rule,), ("a", "bus", "x"))
        told += [served(drawer, rule, ("bus", "a"), 10 ** 9), first_fallen(drawer, rule, ("bus", "a"), 7)]
        told += [desk.contents, desk.look_count, desk.kept, desk.history, desk.apply_all([("redo",), ("file_all",)])]
        told += [desk.tried([("use", "a"), ("fetch", "x")], False), desk.history, desk.kept, desk.contents]
        told += [watch.pairs, watch.places, watch.next_places(), watch.could_find(), watch.most_looks()]
        told += [table(drawer, rule), *run_script(drawer, f"use {rule} bus\nfind {rule} a\nrepeat 2\nfile\nend")]
    return told


def spoil(value):
    """Empty a list or a dict that was returned."""
    if isinstance(value, (list, dict)):
        value.clear()


class FunctionsTest(unittest.TestCase):

    def test_arguments_are_not_modified(self):
        for drawer in [a_drawer(), *some_drawers(20, 6)]:
            cards = drawer.cards
            copies = tuple(Card(card.heading, card.books, card.see, card.also) for card in cards)
            answers(drawer)
            self.assertEqual(cards, copies)
            self.assertEqual(drawer, Drawer(copies))

    def test_repeated_calls_return_equal_results_whatever_the_caller_does_to_them(self):
        for drawer in [a_drawer(), Drawer(()), *some_drawers(20, 6)]:
            first, second = answers(drawer), answers(drawer)
            self.assertEqual(first, second)
            for value in first:
                spoil(value)
            self.assertEqual(answers(drawer), second)
            self.assertEqual(answers(Drawer(drawer.cards)), second)

    def test_lists_that_are_handed_in_are_not_modified_or_kept(self):
        drawer = a_drawer()
        log, tally, counts = [("bus", (7,))], [("bus", 2)], [("rail", 4)]
        values, operations = encode_drawer(drawer), [("take", 0), ("undo",), ("use", "bus")]
        rows = [list(row) for row in (log, tally, counts, values, operations)]
        possible_losses(drawer, "all", log, 2)
        next_heading(drawer, "all", log, 2)
        possible_orders(drawer, "all", tally, 2)
        possible_rules(drawer, counts)
        decode_drawer(values)
        desk = Desk.replay(drawer, "all", operations)
        desk.apply_all(operations)
        desk.tried(operations, True)
        self.assertEqual([log, tally, counts, values, operations], rows)
        before = (desk.contents, desk.look_count, desk.history)
        operations.append(("take", 0))
        self.assertEqual((desk.contents, desk.look_count, desk.history), before)

    def test_kinds_of_values(self):
        drawer = a_drawer()
        kinds = (
            (look_up(drawer, "all", "bus"), tuple), (look_up(drawer, "all", "bus")[1], tuple),
            (never_found(drawer, "all"), list), (why_not(drawer, "all", 3), tuple), (out_of_order(drawer), tuple),
            (fewest_moves(drawer, "leaf", 2), list), (walk(drawer, "all", "bus"), tuple),
            (walk(drawer, "all", "bus")[1], tuple), (looks(drawer, "all", "bus"), int),
            (landings(drawer, "all"), dict), (see_rings(drawer, "all"), list), (dearest(drawer, "all"), tuple),
            (gather(drawer, "all", "deep", "bus", 1), tuple), (reach(drawer, "all", "bus"), tuple),
            (hidden(drawer, "all", ()), list), (least_patience(drawer, "all", "deep", "tram", 4), int),
            (fewest_headings(drawer, "all"), tuple), (leads_to(drawer, "all", 0), list),
            (also_rings(drawer, "all"), list), (mend(drawer, "all", ("bus",), 0), type(None)),
            (mend(drawer, "all", (), 0), list), (cuts(drawer, "all", "bus", 7), list),
            (least_loss(drawer, "all", "bus", 7), tuple), (safe_books(drawer, "all", "bus", 0), tuple),
            (possible_losses(drawer, "all", [], 1), list), (possible_losses(drawer, "all", [], 1)[0], tuple),
            (judged(drawer, "all", [], 1, 0), str), (next_heading(drawer, "all", [], 1), str),
            (difference(drawer, "all", "leaf"), str), (possible_rules(drawer, []), list),
            (joined(drawer, drawer), Drawer), (still_found(drawer, drawer, "all"), list),
            (split(drawer, "c"), tuple), (split(drawer, "c")[0], Drawer), (lost_by_split(drawer, "all", "c"), list),
            (best_split(drawer, "all"), str), (possible_orders(drawer, "all", [], 1), list),
            (possible_orders(drawer, "all", [], 1)[0], tuple), (misplaced(drawer, "all", [], 0), list),
            (used(drawer, "all", ()), tuple), (used(drawer, "all", ())[0], Drawer),
            (used_far(drawer, "all", ("bus",), 9), tuple), (used_far(drawer, "all", ("bus",), 9)[1], int),
            (first_in_front(drawer, "all", ("bus",), 1), tuple), (cost(drawer, "all", ("bus",)), int),
            (best_order(drawer, ("bus",)), tuple), (best_order(drawer, ("bus",))[1], tuple),
            (worth_filing(drawer, "all", ()), str), (shared_looks(drawer, "all", ((),)), tuple),
            (shared_fronts(drawer, "all", ((),)), list), (best_turns(drawer, "all", ((),)), tuple),
            (served(drawer, "all", ("bus",), 9), int), (first_fallen(drawer, "all", ("bus",), 9), tuple),
            (first_fallen(drawer, "all", ("bus",), 9)[1], list), (Desk(drawer, "all").contents, Drawer),
            (Desk(drawer, "all").look_count, int), (Desk(drawer, "all").kept, list),
            (Desk(drawer, "all").history, list), (Desk(drawer, "all").apply_all([]), list),
            (Desk(drawer, "all").tried([], True), list), (Desk.replay(drawer, "all", []), Desk),
            (table(drawer, "all"), str), (strip(drawer), str), (format_drawer(drawer), str), (parse_drawer(""), Drawer),
            (encode_drawer(drawer), list), (decode_drawer(encode_drawer(drawer)), Drawer),
            (run_script(drawer, ""), tuple), (run_script(drawer, "")[0], Drawer), (run_script(drawer, "")[1], list),
        )
        for value, kind in kinds:
            self.assertIs(value.__class__, kind)

    def test_a_call_that_raises_an_error_changes_nothing(self):
        drawer = a_drawer()
        before = answers(drawer)
        wrong = (
            lambda: look_up(drawer, "all", ""), lambda: never_found(drawer, ""), lambda: why_not(drawer, "all", 4),
            lambda: fewest_moves(drawer, "all", 3), lambda: walk(drawer, "", "bus"), lambda: looks(drawer, "all", "1"),
            lambda: landings(drawer, ""), lambda: gather(drawer, "all", "deep", "bus", 0),
            lambda: hidden(drawer, "all", ("bus", "")), lambda: leads_to(drawer, "all", True),
            lambda: fewest_moves(drawer, "all", True), lambda: gather(drawer, "all", "deep", "bus", True),
            lambda: mend(drawer, "all", ("bus",), True), lambda: mend(drawer, "all", ("bus", ""), 1),
            lambda: cuts(drawer, "all", "", 1), lambda: least_loss(drawer, "", "bus", 1),
            lambda: safe_books(drawer, "all", "bus", True), lambda: possible_losses(drawer, "all", [], True),
            lambda: judged(drawer, "all", [], 1, True), lambda: judged(drawer, "all", [("x", (1,))], 1, 0),
            lambda: next_heading(drawer, "all", [("", ())], 1), lambda: difference(drawer, "all", ""),
            lambda: possible_rules(drawer, [("bus", 1), ("", 1)]),
            lambda: joined(drawer, Drawer(drawer.cards * 4)), lambda: still_found(drawer, drawer, ""),
            lambda: split(drawer, ""), lambda: lost_by_split(drawer, "all", ""), lambda: best_split(drawer, ""),
            lambda: possible_orders(drawer, "all", [], True), lambda: misplaced(drawer, "all", [("x", 99)], 2),
            lambda: used(drawer, "all", ("bus", "")), lambda: used_far(drawer, "all", ("bus",), True),
            lambda: first_in_front(drawer, "all", ("bus",), True), lambda: cost(drawer, "all", ("bus",) * 13),
            lambda: best_order(drawer, ("bus", "")), lambda: worth_filing(drawer, "all", ("bus", "")),
            lambda: shared_looks(drawer, "all", (("bus",),) * 4), lambda: shared_fronts(drawer, "all", (("bus", ""),)),
            lambda: best_turns(drawer, "all", ()), lambda: served(drawer, "all", ("bus",), True),
            lambda: first_fallen(drawer, "all", ("bus", ""), 1), lambda: Desk(drawer, ""),
            lambda: Desk(drawer, "all").put(Card("a"), True), lambda: Desk.replay(drawer, "all", [("take",)]),
            lambda: Desk(drawer, "all").tried([("take", 0), ("take", 9)], True),
            lambda: Observer(drawer, ("all", ""), ("bus",)), lambda: Observer(drawer, ("all",), ("bus",)).saw(True),
            lambda: table(drawer, ""), lambda: parse_drawer("card"), lambda: parse_drawer("see bus bus"),
            lambda: decode_drawer([97, True]), lambda: run_script(drawer, "take"), lambda: run_script(drawer, "take 9"),
            lambda: run_script(drawer, "file\n" + "repeat 99\nend\n" * 3 + "file"),
        )
        for call in wrong:
            with self.assertRaises(SeeError):
                call()
        self.assertEqual(answers(drawer), before)


if __name__ == "__main__":
    unittest.main()
