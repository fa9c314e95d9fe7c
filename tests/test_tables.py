"""Tables: point 26."""

import unittest

from seerings.cards import Card
from seerings.drawers import Drawer
from seerings.errors import InvalidRule
from seerings.tables import strip, table

from tests import examples, reference
from tests.made import NO_RULES, RULES, plain, some_drawers


class ExampleTest(unittest.TestCase):

    def test_examples(self):
        examples.run(self, """
>>> from seerings.cards import Card
>>> from seerings.drawers import Drawer
>>> from seerings.tables import strip, table
>>> drawer = Drawer((Card("tram", books=(1,)), Card("bus", also=("tram",)), Card("rail", see="tram")))
>>> [table(drawer, "all"), strip(drawer)]
['bus: 1 entry\\nrail: 2>0 entry\\ntram: 0 entry', '.+!>']
""")


class TableTest(unittest.TestCase):

    def test_no_cards(self):
        for rule in RULES:
            self.assertEqual(table(Drawer(()), rule), "")

    def test_one_card(self):
        for rule in RULES:
            self.assertEqual(table(plain("a"), rule), "a: 0 entry")

    def test_walks_that_are_lost_at_once(self):
        self.assertEqual(table(plain("cab"), "leaf"), "a: - lost\nb: - lost\nc: 0 entry")

    def test_known_headings_that_no_card_has(self):
        drawer = Drawer((Card("b", also=("x", "a")), Card("c", see="y")))
        self.assertEqual(table(drawer, "all"), "a: - lost\nb: 0 entry\nc: 1 lost\nx: - lost\ny: - lost")

    def test_walks_that_are_lost_behind_see_cards(self):
        drawer = Drawer((Card("c", see="x"), Card("b", see="c"), Card("a", see="b")))
        self.assertEqual(table(drawer, "all"), "a: 2>1>0 lost\nb: 1>0 lost\nc: 0 lost\nx: - lost")

    def test_walks_that_go_round(self):
        drawer = Drawer((Card("a", see="b"), Card("b", see="c"), Card("c", see="b")))
        self.assertEqual(table(drawer, "half"), "a: 0>1>2 ring\nb: 1>2 ring\nc: 2>1 ring")

    def test_places_of_two_digits(self):
        drawer = Drawer((*plain("a" * 10).cards, Card("b", see="c"), Card("c")))
        self.assertEqual(table(drawer, "leaf"), "a: 0 entry\nb: 10>11 entry\nc: 11 entry")

    def test_wrong_rules(self):
        for rule in NO_RULES:
            for drawer in (Drawer(()), plain("a")):
                with self.assertRaises(InvalidRule):
                    table(drawer, rule)

    def test_against_the_reference(self):
        for drawer in some_drawers(100, 16):
            for rule in RULES:
                self.assertEqual(table(drawer, rule), reference.table(drawer, rule))


class StripTest(unittest.TestCase):

    def test_no_cards(self):
        self.assertEqual(strip(Drawer(())), "")

    def test_each_sign(self):
        see, further = Card("b", see="c"), Card("b", (4,), also=("c",))
        with_books, without = Card("b", (4,)), Card("b")
        self.assertEqual([strip(Drawer((card,))) for card in (see, further, with_books, without)], [">", "+", ".", "."])
        self.assertEqual(strip(Drawer((see, further, with_books, without))), ">+..")

    def test_each_sign_out_of_order(self):
        cards = (Card("d"), Card("c", see="d"), Card("b", also=("c",)), Card("a", (1,)), Card("b", also=("z",)))
        self.assertEqual(strip(Drawer(cards)), ".>!+!.!+")

    def test_only_the_card_ahead_counts(self):
        self.assertEqual(strip(plain("cab")), "..!.")
        self.assertEqual(strip(plain("abc")), "...")
        self.assertEqual(strip(plain("cbc")), "..!.")

    def test_equal_headings(self):
        self.assertEqual(strip(plain("bb")), "..")
        self.assertEqual(strip(plain("cbba")), "..!..!")

    def test_headings_of_several_letters(self):
        self.assertEqual(strip(Drawer((Card("ab"), Card("a"), Card("b"), Card("aaaa")))), "..!..!")


if __name__ == "__main__":
    unittest.main()
