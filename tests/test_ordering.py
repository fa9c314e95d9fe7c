"""Cards out of order, and fewest moves: point 5."""

import unittest

from seerings.cards import Card
from seerings.drawers import Drawer, is_filed
from seerings.errors import InvalidNumber, InvalidRule
from seerings.lookups import look_up
from seerings.ordering import fewest_moves, out_of_order

from tests import examples, reference
from tests.made import RULES, plain, plain_drawers


class OutOfOrderTest(unittest.TestCase):

    def test_examples(self):
        examples.run(self, """
>>> from seerings.cards import Card
>>> from seerings.drawers import Drawer
>>> from seerings.ordering import fewest_moves, out_of_order
>>> drawer = Drawer((Card("bus"), Card("tram"), Card("rail"), Card("ship")))
>>> [out_of_order(drawer), fewest_moves(drawer, "leaf", 2), fewest_moves(drawer, "all", 2)]
[(1,), [(1, 3)], []]
""")

    def test_filed_drawers_have_none(self):
        for text in ("", "a", "aa", "abc", "aabbcc", "abcdefghijklmnop"):
            self.assertEqual(out_of_order(plain(text)), ())

    def test_of_several_the_first_one(self):
        self.assertEqual(out_of_order(plain("ba")), (0,))
        self.assertEqual(out_of_order(plain("cba")), (0, 1))
        self.assertEqual(out_of_order(plain("abdc")), (2,))
        self.assertEqual(out_of_order(plain("badc")), (0, 2))
        self.assertEqual(out_of_order(plain("cdab")), (0, 1))

    def test_the_fewest(self):
        self.assertEqual(out_of_order(plain("bcda")), (3,))
        self.assertEqual(out_of_order(plain("dabc")), (0,))
        self.assertEqual(out_of_order(plain("aabab")), (2,))
        self.assertEqual(out_of_order(plain("bbbaa")), (3, 4))
        self.assertEqual(out_of_order(plain("ponmlkjihgfedcba")), tuple(range(15)))

    def test_against_the_reference(self):
        for drawer in plain_drawers("abcd", 5) + plain_drawers("abc", 7):
            row = [card.heading for card in drawer.cards]
            places = out_of_order(drawer)
            self.assertEqual(places, reference.out_of_order(row), row)
            self.assertTrue(is_filed(drawer.without(places)))


class FewestMovesTest(unittest.TestCase):

    def test_no_moves(self):
        for rule in RULES:
            for text in ("", "a", "abc"):
                for most in (0, 1, 2):
                    self.assertEqual(fewest_moves(plain(text), rule, most), [])
        self.assertEqual(fewest_moves(plain("dcba"), "all", 0), [])

    def test_a_heading_is_found_if_one_of_its_cards_is(self):
        self.assertEqual(fewest_moves(plain("abab"), "leaf", 2), [])
        self.assertEqual(fewest_moves(plain("bcb"), "half", 2), [])
        self.assertEqual(fewest_moves(plain("cbbc"), "half", 2), [])

    def test_one_move(self):
        self.assertEqual(fewest_moves(plain("ba"), "leaf", 1), [(0, 1)])
        self.assertEqual(fewest_moves(plain("ba"), "leaf", 2), [(0, 1)])
        self.assertEqual(fewest_moves(plain("bcda"), "leaf", 1), [(3, 0)])

    def test_two_moves(self):
        self.assertEqual(fewest_moves(plain("cba"), "leaf", 2), [(0, 1), (2, 0)])
        self.assertEqual(fewest_moves(plain("badc"), "leaf", 2), [(0, 1), (2, 3)])
        self.assertEqual(fewest_moves(plain("badc"), "leaf", 1), None)

    def test_none_if_these_are_not_enough(self):
        self.assertIsNone(fewest_moves(plain("ba"), "leaf", 0))
        self.assertIsNone(fewest_moves(plain("ba"), "half", 0))
        self.assertIsNone(fewest_moves(plain("cba"), "leaf", 1))
        self.assertIsNone(fewest_moves(plain("dcba"), "leaf", 2))
        self.assertIsNone(fewest_moves(plain("ponmlkjihgfedcba"), "half", 2))

    def test_the_moves_do_what_they_must(self):
        drawer = Drawer((Card("tram"), Card("bus", see="ship"), Card("rail"), Card("bus"), Card("ship")))
        for rule in RULES:
            later = drawer
            for place, other in fewest_moves(drawer, rule, 2):
                self.assertNotEqual(place, other)
                later = later.moved(place, other)
            self.assertNotIn(None, [look_up(later, rule, heading)[0] for heading in later.headings])

    def test_against_the_reference(self):
        for drawer in plain_drawers("abcd", 4):
            for rule in ("leaf", "half"):
                for most in (0, 1, 2):
                    self.assertEqual(fewest_moves(drawer, rule, most), reference.fewest_moves(drawer, rule, most))

    def test_five_cards_against_the_reference(self):
        for text in ("edcba", "badce", "cdeab", "ebcda", "bcbae", "ecbad", "abedc", "dbdca"):
            for rule in ("leaf", "half"):
                drawer = plain(text)
                self.assertEqual(fewest_moves(drawer, rule, 2), reference.fewest_moves(drawer, rule, 2), text)

    def test_errors_in_their_order(self):
        for most in (-1, 3, 99, True, False):
            with self.assertRaises(InvalidNumber):
                fewest_moves(plain("ab"), "all", most)
            with self.assertRaises(InvalidRule):
                fewest_moves(plain("ab"), "none", most)
        with self.assertRaises(InvalidRule):
            fewest_moves(plain("ab"), "straight", 1)

    def test_the_list_may_be_modified(self):
        drawer = plain("cba")
        fewest_moves(drawer, "leaf", 2).append((0, 1))
        fewest_moves(drawer, "all", 2).append((0, 1))
        self.assertEqual(fewest_moves(drawer, "leaf", 2), [(0, 1), (2, 0)])
        self.assertEqual(fewest_moves(drawer, "all", 2), [])


if __name__ == "__main__":
    unittest.main()
