"""Misfiled cards: point 18."""

import itertools
import unittest

from seerings.cards import Card
from seerings.drawers import Drawer
from seerings.errors import InvalidNumber, InvalidRule, InvalidTally, NoOrder
from seerings.misfiling import misplaced, possible_orders

from tests import examples, reference
from tests.made import NO_RULES, NO_WORDS, RULES, plain, some_drawers

NO_NUMBERS = (-1, 3, 99, 10 ** 18, True, False)


class ExampleTest(unittest.TestCase):

    def test_examples(self):
        examples.run(self, """
>>> from seerings.cards import Card
>>> from seerings.drawers import Drawer
>>> from seerings.misfiling import misplaced, possible_orders
>>> drawer = Drawer((Card("tram", books=(1,)), Card("bus", also=("tram",)), Card("rail", see="tram")))
>>> [possible_orders(drawer, "all", [("bus", 2)], 1), misplaced(drawer, "all", [("tram", 1)], 1)]
[[(1, 0, 2), (2, 0, 1)], [0, 1, 2]]
""")
        examples.run(self, """
>>> from seerings.cards import Card
>>> from seerings.drawers import Drawer
>>> from seerings.misfiling import misplaced
>>> drawer = Drawer((Card("tram", books=(1,)), Card("bus", also=("tram",)), Card("rail", see="tram")))
>>> misplaced(drawer, "all", [("bus", 9)], 1)
raises NoOrder()
""")


class PossibleOrdersTest(unittest.TestCase):

    def test_no_moves(self):
        self.assertEqual(possible_orders(plain("cab"), "all", [], 0), [(0, 1, 2)])
        self.assertEqual(possible_orders(plain("cab"), "all", [("a", 1)], 0), [(0, 1, 2)])
        self.assertEqual(possible_orders(plain("cab"), "all", [("c", 1)], 0), [])

    def test_orders_are_told_once_and_ascend(self):
        orders = [(0, 1, 2), (0, 2, 1), (1, 0, 2), (1, 2, 0), (2, 0, 1)]
        self.assertEqual(possible_orders(plain("abc"), "all", [], 1), orders)
        self.assertEqual(possible_orders(plain("abc"), "all", [], 2), sorted(itertools.permutations(range(3))))
        self.assertEqual(possible_orders(plain("ab"), "half", [], 2), [(0, 1), (1, 0)])

    def test_two_moves(self):
        self.assertEqual(len(possible_orders(plain("abcd"), "all", [], 0)), 1)
        self.assertEqual(len(possible_orders(plain("abcd"), "all", [], 1)), 10)
        orders = possible_orders(plain("abcd"), "all", [], 2)
        self.assertEqual(orders, [row for row in itertools.permutations(range(4)) if row != (3, 2, 1, 0)])

    def test_a_tally_with_one_tuple(self):
        self.assertEqual(possible_orders(plain("abc"), "all", [("c", 1)], 1), [(2, 0, 1)])
        self.assertEqual(possible_orders(plain("abc"), "half", [("a", 1)], 1), [(1, 0, 2), (2, 0, 1)])
        self.assertEqual(possible_orders(plain("abc"), "leaf", [("a", 1)], 1), [
            (0, 1, 2), (0, 2, 1), (1, 0, 2), (1, 2, 0), (2, 0, 1),
        ])

    def test_a_tally_with_several_tuples(self):
        self.assertEqual(possible_orders(plain("abc"), "all", [("c", 2), ("b", 1)], 2), [(1, 2, 0)])
        self.assertEqual(possible_orders(plain("abc"), "all", [("c", 2), ("b", 2)], 2), [])
        self.assertEqual(possible_orders(plain("abc"), "all", [("c", 2), ("c", 2)], 1), [(0, 2, 1), (1, 2, 0)])

    def test_headings_that_are_not_found(self):
        self.assertEqual(len(possible_orders(plain("abc"), "all", [("x", 3)], 1)), 5)
        self.assertEqual(possible_orders(plain("abc"), "leaf", [("bb", 1)], 1), [(2, 0, 1)])

    def test_only_one_look_up_counts(self):
        drawer = Drawer((Card("a", see="c"), Card("b"), Card("c")))
        self.assertEqual(possible_orders(drawer, "all", [("a", 1)], 0), [(0, 1, 2)])
        self.assertEqual(possible_orders(drawer, "all", [("a", 4)], 2), [])

    def test_places_are_those_of_the_filed_drawer(self):
        for text in ("abc", "cab", "bca"):
            self.assertEqual(possible_orders(plain(text), "all", [("b", 1)], 1), [(1, 0, 2), (1, 2, 0)])

    def test_cards_of_one_heading(self):
        self.assertEqual(possible_orders(plain("aa"), "all", [("a", 1)], 1), [(0, 1), (1, 0)])
        self.assertEqual(possible_orders(plain("aab"), "all", [("b", 1)], 1), [(2, 0, 1)])
        self.assertEqual(possible_orders(plain("aba"), "all", [("b", 1)], 2), [(2, 0, 1), (2, 1, 0)])
        self.assertEqual(possible_orders(plain("aba"), "all", [("b", 2)], 1), [(0, 2, 1), (1, 2, 0)])

    def test_no_cards(self):
        for most in (0, 1, 2):
            self.assertEqual(possible_orders(Drawer(()), "all", [], most), [()])
            self.assertEqual(possible_orders(Drawer(()), "all", [("a", 0)], most), [()])
            self.assertEqual(possible_orders(Drawer(()), "all", [("a", 1)], most), [])

    def test_a_whole_drawer(self):
        drawer = plain("abcdefghijklmnop")
        self.assertEqual(len(possible_orders(drawer, "half", [], 1)), 15 * 15 + 1)
        orders = possible_orders(drawer, "all", [("p", 1), ("a", 16)], 2)
        self.assertEqual(orders, [(15, *range(1, 15), 0)])

    def test_against_the_reference(self):
        for drawer in some_drawers(50, 5, "abc"):
            for rule in RULES:
                for tally in ([], [("a", 1)], [("b", 2)], [("c", 3)], [("a", 2), ("c", 1)], [("x", 2)]):
                    for most in (0, 1, 2):
                        orders = reference.possible_orders(drawer, rule, tally, most)
                        self.assertEqual(possible_orders(drawer, rule, tally, most), orders)

    def test_the_list_may_be_modified_and_the_tally_is_as_before(self):
        tally = [("a", 1), ("b", 2)]
        first = possible_orders(plain("abc"), "all", tally, 2)
        second = list(first)
        first.clear()
        self.assertEqual(possible_orders(plain("abc"), "all", tally, 2), second)
        misplaced(plain("abc"), "all", tally, 2)
        self.assertEqual(tally, [("a", 1), ("b", 2)])


class MisplacedTest(unittest.TestCase):

    def test_none(self):
        self.assertEqual(misplaced(plain("cab"), "all", [], 2), [])
        self.assertEqual(misplaced(plain("cab"), "all", [("a", 1)], 0), [])
        self.assertEqual(misplaced(Drawer(()), "all", [("a", 0)], 1), [])

    def test_some(self):
        self.assertEqual(misplaced(plain("abcd"), "all", [("b", 1)], 1), [0, 1])
        self.assertEqual(misplaced(plain("abcd"), "all", [("d", 3)], 1), [2, 3])
        self.assertEqual(misplaced(plain("abcd"), "all", [("d", 1)], 2), [0, 3])
        self.assertEqual(misplaced(plain("abc"), "all", [("c", 2), ("b", 1)], 2), [0, 1, 2])

    def test_cards_of_one_heading_have_places_of_their_own(self):
        self.assertEqual(misplaced(plain("baa"), "all", [("b", 1)], 1), [0, 1, 2])
        self.assertEqual(misplaced(plain("baa"), "all", [("b", 1)], 2), [0, 2])
        self.assertEqual(misplaced(plain("aa"), "all", [("a", 1)], 1), [])

    def test_no_order(self):
        for tally in ([("a", 9)], [("a", 1), ("a", 2)], [("a", -1)]):
            for most in (0, 1, 2):
                with self.assertRaises(NoOrder):
                    misplaced(plain("abc"), "all", tally, most)
        with self.assertRaises(NoOrder):
            misplaced(plain("abc"), "all", [("c", 1)], 0)
        with self.assertRaises(NoOrder):
            misplaced(Drawer(()), "all", [("c", 1)], 2)

    def test_it_follows_from_the_orders(self):
        for drawer in some_drawers(40, 5, "abc"):
            for rule in RULES:
                for tally in ([("a", 1)], [("b", 2)], [("c", 3)]):
                    orders = reference.possible_orders(drawer, rule, tally, 1)
                    if orders:
                        found = [at for at in range(len(drawer)) if at not in [order[at] for order in orders]]
                        self.assertEqual(misplaced(drawer, rule, tally, 1), found)

    def test_the_list_may_be_modified(self):
        misplaced(plain("abcd"), "all", [("d", 3)], 1).clear()
        self.assertEqual(misplaced(plain("abcd"), "all", [("d", 3)], 1), [2, 3])


class ErrorsTest(unittest.TestCase):

    def test_errors_in_their_order(self):
        for call in (possible_orders, misplaced):
            for rule in NO_RULES:
                with self.assertRaises(InvalidRule):
                    call(plain("ab"), rule, [("", 1)], 3)
            for word in NO_WORDS:
                for index, tally in enumerate(([(word, 9)], [("a", 9), (word, 1)], [("a", 1)] * 2 + [(word, 1)] * 2)):
                    with self.assertRaises(InvalidTally) as caught:
                        call(plain("ab"), "all", tally, 3)
                    self.assertEqual(caught.exception.index, index)
            for most in NO_NUMBERS:
                for tally in ([], [("a", 9)]):
                    with self.assertRaises(InvalidNumber):
                        call(plain("ab"), "all", tally, most)


if __name__ == "__main__":
    unittest.main()
