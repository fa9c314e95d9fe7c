"""Cards: point 2."""

import unittest

from seerings.cards import Card
from seerings.drawers import Drawer
from seerings.errors import InvalidCard

from tests import examples


class CardTest(unittest.TestCase):

    def assert_wrong(self, part, *given, **more):
        with self.assertRaises(InvalidCard) as caught:
            Card(*given, **more)
        self.assertEqual(caught.exception.part, part, (given, more))

    def test_examples(self):
        examples.run(self, """
>>> from seerings.cards import Card
>>> card = Card("tram", also=("rail", "bus"))
>>> [card.books, card.leads, Card("rail", see="tram").leads, card == Card("tram", also=("bus", "rail"))]
[(), False, True, False]
""")
        examples.run(self, """
>>> from seerings.cards import Card
>>> Card("rail", books=(4,), see="tram")
raises InvalidCard(part='see')
""")

    def test_defaults(self):
        card = Card("tram")
        self.assertEqual((card.heading, card.books, card.see, card.also), ("tram", (), "", ()))
        self.assertIs(card.leads, False)

    def test_an_entry_card(self):
        card = Card("tram", (4, 7), "", ("rail", "bus"))
        self.assertEqual((card.heading, card.books, card.see, card.also), ("tram", (4, 7), "", ("rail", "bus")))
        self.assertIs(card.leads, False)

    def test_a_see_card(self):
        card = Card("rail", see="tram")
        self.assertEqual((card.heading, card.books, card.see, card.also), ("rail", (), "tram", ()))
        self.assertIs(card.leads, True)

    def test_shortest_and_longest_words(self):
        for word in ("a", "z", "abcdefgh", "zzzzzzzz"):
            self.assertEqual(Card(word).heading, word)
            self.assertEqual(Card("tram", see=word).see, word)
            self.assertEqual(Card("tram", also=(word,)).also, (word,))

    def test_wrong_words(self):
        for word in ("abcdefghi", "Tram", "traM", "t2", "tr am", " tram", "tram ", "tr-am", "\u00e9", "tram\n", "`", "{"):
            self.assert_wrong("heading", word)
            self.assert_wrong("see", "tram", see=word)
            self.assert_wrong("also", "tram", also=(word,))
            self.assert_wrong("also", "tram", also=("bus", word))
        self.assert_wrong("heading", "")
        self.assert_wrong("also", "tram", also=("",))

    def test_first_and_last_books(self):
        self.assertEqual(Card("tram", books=(1,)).books, (1,))
        self.assertEqual(Card("tram", books=(999,)).books, (999,))
        self.assertEqual(Card("tram", books=(1, 2, 3, 4, 5, 999)).books, (1, 2, 3, 4, 5, 999))

    def test_wrong_books(self):
        for books in ((0,), (1000,), (-1,), (1, 1000), (2, 1), (3, 3), (1, 5, 4), (1, 2, 3, 4, 5, 6, 7)):
            self.assert_wrong("books", "tram", books=books)

    def test_a_boolean_is_no_book(self):
        self.assert_wrong("books", "tram", books=(True,))
        self.assert_wrong("books", "tram", books=(True, 2))
        self.assert_wrong("books", "tram", books=(False,))

    def test_a_card_does_not_lead_to_itself(self):
        self.assert_wrong("see", "tram", see="tram")
        self.assert_wrong("also", "tram", also=("tram",))
        self.assert_wrong("also", "tram", also=("bus", "tram"))

    def test_a_see_card_has_nothing_else(self):
        self.assert_wrong("see", "rail", books=(4,), see="tram")
        self.assert_wrong("see", "rail", see="tram", also=("bus",))
        self.assert_wrong("see", "rail", books=(4,), see="tram", also=("bus",))

    def test_further_headings(self):
        self.assertEqual(Card("tram", also=("d", "b", "a", "c")).also, ("d", "b", "a", "c"))
        self.assert_wrong("also", "tram", also=("a", "b", "c", "d", "e"))
        self.assert_wrong("also", "tram", also=("a", "a"))
        self.assert_wrong("also", "tram", also=("a", "b", "a"))

    def test_the_first_wrong_part_is_told(self):
        self.assert_wrong("heading", "", books=(0,), see="B", also=("a", "a"))
        self.assert_wrong("heading", "B", see="B")
        self.assert_wrong("books", "tram", books=(0,), see="B", also=("a", "a"))
        self.assert_wrong("books", "tram", books=(0,), see="bus")
        self.assert_wrong("books", "tram", books=(0,), also=("a", "a"))
        self.assert_wrong("see", "tram", books=(1,), see="B", also=("a", "a"))
        self.assert_wrong("see", "tram", see="tram", also=("tram",))
        self.assert_wrong("see", "tram", see="bus", also=("a", "a"))

    def test_equality(self):
        self.assertTrue(Card("tram") == Card("tram"))
        self.assertTrue(Card("tram", (1, 2), "", ("a",)) == Card("tram", books=(1, 2), also=("a",)))
        self.assertTrue(Card("rail", see="tram") == Card("rail", (), "tram", ()))
        self.assertFalse(Card("tram") != Card("tram"))

    def test_inequality(self):
        cards = [Card("tram"), Card("bus"), Card("tram", (1,)), Card("tram", (2,)), Card("tram", (1, 2))]
        cards += [Card("tram", see="bus"), Card("tram", see="rail"), Card("tram", also=("bus",))]
        cards += [Card("tram", also=("bus", "rail")), Card("tram", also=("rail", "bus"))]
        for place, card in enumerate(cards):
            for other_place, other in enumerate(cards):
                self.assertEqual(card == other, place == other_place)
                self.assertEqual(card != other, place != other_place)

    def test_no_card_is_equal_to_something_else(self):
        card = Card("tram")
        for other in ("tram", ("tram", (), "", ()), None, 0, [], {}, Drawer((card,)), object()):
            self.assertFalse(card == other)
            self.assertFalse(other == card)
            self.assertTrue(card != other)


if __name__ == "__main__":
    unittest.main()
