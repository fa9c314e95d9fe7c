"""Drawers: point 3."""

import itertools
import unittest

from seerings.cards import Card
from seerings.drawers import Drawer, filed, is_filed
from seerings.errors import InvalidDrawer, UnknownPlace

from tests import examples
from tests.made import plain, plain_drawers

NO_PLACES = (-1, 3, 4, 16, True, False)


def three():
    return Drawer((Card("tram", books=(1,)), Card("bus"), Card("tram", books=(2,))))


class DrawerTest(unittest.TestCase):

    def test_examples(self):
        examples.run(self, """
>>> from seerings.cards import Card
>>> from seerings.drawers import Drawer, filed, is_filed
>>> drawer = Drawer((Card("tram", books=(1,)), Card("bus"), Card("tram", books=(2,))))
>>> [drawer.headings, is_filed(drawer), filed(drawer) == drawer.moved(1, 0), drawer.without((0, 1))[0].books]
[('bus', 'tram'), False, True, (2,)]
""")
        examples.run(self, """
>>> from seerings.cards import Card
>>> from seerings.drawers import Drawer
>>> Drawer((Card("bus"),)).moved(0, 1)
raises UnknownPlace()
""")

    def test_no_cards(self):
        drawer = Drawer(())
        self.assertEqual((drawer.cards, drawer.headings, len(drawer)), ((), (), 0))
        self.assertEqual(drawer.without(()), drawer)
        self.assertIs(is_filed(drawer), True)
        self.assertEqual(filed(drawer), drawer)
        with self.assertRaises(UnknownPlace):
            drawer[0]
        with self.assertRaises(UnknownPlace):
            drawer.moved(0, 0)

    def test_sixteen_cards_and_no_more(self):
        cards = tuple(Card("tram", books=(number,)) for number in range(1, 18))
        self.assertEqual(Drawer(cards[:16]).cards, cards[:16])
        with self.assertRaises(InvalidDrawer):
            Drawer(cards)

    def test_cards_and_headings(self):
        cards = (Card("tram", books=(1,)), Card("bus", see="ship"), Card("tram", also=("rail",)))
        drawer = Drawer(cards)
        self.assertEqual(drawer.cards, cards)
        self.assertIsInstance(drawer.cards, tuple)
        self.assertEqual(drawer.headings, ("bus", "tram"))
        self.assertEqual(len(drawer), 3)

    def test_a_card_by_its_place(self):
        drawer = three()
        self.assertEqual([drawer[place].books for place in range(3)], [(1,), (), (2,)])
        for place in NO_PLACES:
            with self.assertRaises(UnknownPlace):
                drawer[place]

    def test_equality(self):
        self.assertTrue(three() == three())
        self.assertFalse(three() != three())
        self.assertTrue(Drawer(()) == Drawer(()))
        self.assertFalse(three() == three().moved(1, 0))
        self.assertFalse(three() == three().without((2,)))
        self.assertTrue(three() != Drawer(()))

    def test_no_drawer_is_equal_to_something_else(self):
        for other in (three().cards, list(three().cards), None, 3, "bus", Card("bus"), object()):
            self.assertFalse(three() == other)
            self.assertFalse(other == three())
        self.assertFalse(Drawer(()) == ())

    def test_no_iteration(self):
        for drawer in (three(), Drawer(())):
            with self.assertRaises(TypeError):
                iter(drawer)
            with self.assertRaises(TypeError):
                list(drawer)
            with self.assertRaises(TypeError):
                for card in drawer:
                    self.fail(card)

    def test_without(self):
        drawer = plain("dbca")
        self.assertEqual(drawer.without(()), drawer)
        self.assertEqual(drawer.without((0,)), plain("bca"))
        self.assertEqual(drawer.without((3, 1)), plain("dc"))
        self.assertEqual(drawer.without((1, 3)), plain("dc"))
        self.assertEqual(drawer.without((2, 0, 1, 3)), Drawer(()))
        self.assertEqual(drawer, plain("dbca"))

    def test_without_what_is_no_place(self):
        for place in NO_PLACES:
            for places in ((place,), (0, place), (place, 0)):
                with self.assertRaises(UnknownPlace):
                    three().without(places)

    def test_without_a_repeated_place(self):
        for places in ((0, 0), (0, 1, 0), (2, 1, 1)):
            with self.assertRaises(UnknownPlace):
                three().without(places)

    def test_moved(self):
        drawer = plain("abcd")
        self.assertEqual(drawer.moved(0, 2), plain("bcad"))
        self.assertEqual(drawer.moved(0, 3), plain("bcda"))
        self.assertEqual(drawer.moved(1, 2), plain("acbd"))
        self.assertEqual(drawer.moved(3, 0), plain("dabc"))
        self.assertEqual(drawer.moved(2, 1), plain("acbd"))
        self.assertEqual(drawer, plain("abcd"))

    def test_moved_to_its_own_place(self):
        for place in range(4):
            self.assertEqual(plain("abcd").moved(place, place), plain("abcd"))

    def test_moved_lies_at_the_other_place(self):
        for place, other in itertools.product(range(4), repeat=2):
            moved = plain("abcd").moved(place, other)
            self.assertEqual(moved[other].heading, "abcd"[place])
            self.assertEqual(moved.without((other,)), plain("abcd").without((place,)))

    def test_moved_with_what_is_no_place(self):
        for place in NO_PLACES:
            with self.assertRaises(UnknownPlace):
                three().moved(place, 0)
            with self.assertRaises(UnknownPlace):
                three().moved(0, place)
            with self.assertRaises(UnknownPlace):
                three().moved(place, place)

    def test_filed(self):
        self.assertEqual(filed(plain("dbca")), plain("abcd"))
        self.assertEqual(filed(plain("abcd")), plain("abcd"))
        cards = (Card("b", (2,)), Card("c"), Card("b", (1,)), Card("a"), Card("b"), Card("a", see="b"))
        drawer = Drawer(cards)
        self.assertEqual(filed(drawer).cards, tuple(cards[place] for place in (3, 5, 0, 2, 4, 1)))
        self.assertEqual(drawer.cards, cards)

    def test_words_are_filed_letter_by_letter(self):
        drawer = Drawer((Card("b"), Card("ab"), Card("a"), Card("aa"), Card("abc")))
        self.assertEqual([card.heading for card in filed(drawer).cards], ["a", "aa", "ab", "abc", "b"])

    def test_is_filed(self):
        for text in ("", "a", "aa", "ab", "aabbc"):
            self.assertIs(is_filed(plain(text)), True)
        for text in ("ba", "aba", "abca", "bcdab"):
            self.assertIs(is_filed(plain(text)), False)

    def test_what_was_filed_is_filed(self):
        for drawer in plain_drawers("abc", 4):
            self.assertTrue(is_filed(filed(drawer)))
            self.assertEqual(is_filed(drawer), filed(drawer) == drawer)


if __name__ == "__main__":
    unittest.main()
