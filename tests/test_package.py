"""What holds for the whole package: point 1."""

import unittest

from seerings.cards import Card
from seerings.drawers import Drawer, filed, is_filed
from seerings.errors import InvalidDrawer, SeeError, UnknownPlace


def a_drawer():
    return Drawer((Card("tram", books=(1, 4), also=("bus",)), Card("bus"), Card("rail", see="tram"), Card("bus", (7,))))


class CardsAndDrawersTest(unittest.TestCase):

    def test_arguments_are_not_modified(self):
        books, also, places = (1, 4), ("bus", "ship"), (2, 0)
        card = Card("tram", books, "", also)
        cards = (card, Card("bus"), Card("rail", see="tram"))
        drawer = Drawer(cards)
        drawer.without(places)
        drawer.moved(0, 2)
        filed(drawer)
        is_filed(drawer)
        self.assertEqual((books, also, places), ((1, 4), ("bus", "ship"), (2, 0)))
        self.assertEqual(cards, (Card("tram", (1, 4), "", ("bus", "ship")), Card("bus"), Card("rail", see="tram")))
        self.assertEqual(drawer, Drawer(cards))

    def test_a_call_that_raises_an_error_changes_nothing(self):
        drawer = a_drawer()
        for wrong in (4, -1, True):
            with self.assertRaises(UnknownPlace):
                drawer.moved(0, wrong)
            with self.assertRaises(UnknownPlace):
                drawer.without((0, wrong))
            with self.assertRaises(UnknownPlace):
                drawer[wrong]
        with self.assertRaises(InvalidDrawer):
            Drawer(drawer.cards * 5)
        with self.assertRaises(TypeError):
            list(drawer)
        self.assertEqual(drawer, a_drawer())

    def test_repeated_calls_return_equal_results(self):
        drawer = a_drawer()
        calls = (
            lambda: drawer.cards, lambda: drawer.headings, lambda: drawer[2], lambda: len(drawer),
            lambda: drawer.without((1,)), lambda: drawer.moved(3, 0), lambda: filed(drawer), lambda: is_filed(drawer),
        )
        for call in calls:
            self.assertEqual(call(), call())

    def test_a_boolean_is_not_an_integer(self):
        wrong = (
            lambda: Card("tram", books=(True,)), lambda: a_drawer()[True], lambda: a_drawer()[False],
            lambda: a_drawer().without((True,)), lambda: a_drawer().moved(True, 0), lambda: a_drawer().moved(0, False),
        )
        for call in wrong:
            with self.assertRaises(SeeError):
                call()


if __name__ == "__main__":
    unittest.main()
