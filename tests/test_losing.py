"""Losing: points 12 and 13."""

import unittest

from seerings.cards import Card
from seerings.drawers import Drawer
from seerings.errors import InvalidHeading, InvalidNumber, InvalidRule
from seerings.gathering import reach
from seerings.losing import cuts, least_loss, safe_books

from tests import examples, reference
from tests.made import NO_RULES, NO_WORDS, RULES, some_drawers, spread


def with_book(text, book=7):
    """Return a drawer of entry cards with these one-letter headings, which have all one book."""
    return Drawer(tuple(Card(letter, (book,)) for letter in text))


class ExampleTest(unittest.TestCase):

    def test_example(self):
        examples.run(self, """
>>> from seerings.cards import Card
>>> from seerings.drawers import Drawer
>>> from seerings.gathering import reach
>>> from seerings.losing import cuts, least_loss, safe_books
>>> drawer = Drawer((Card("bus", books=(1,), also=("tram",)), Card("bus", books=(5,)), Card("tram", books=(5,))))
>>> told = [cuts(drawer, "all", "bus", 1), cuts(drawer, "all", "bus", 5), least_loss(drawer, "all", "bus", 5)]
>>> [told, reach(drawer.without((0, 2)), "all", "bus"), safe_books(drawer, "all", "bus", 0), safe_books(drawer, "all", "bus", 1)]
[[[0], [2], (2,)], (5,), (1, 5), ()]
""")


class CutsTest(unittest.TestCase):

    def test_a_chain_is_cut_at_each_card(self):
        drawer = spread("x", "ab", "bc", "c")
        self.assertEqual(cuts(drawer, "all", "a", 4), [1, 2, 3])
        self.assertEqual(cuts(drawer, "all", "a", 2), [1])
        self.assertEqual(cuts(drawer, "all", "c", 4), [3])

    def test_see_cards_are_cuts(self):
        drawer = Drawer((Card("c", (1,)), Card("b", see="c"), Card("a", see="b"), Card("d")))
        self.assertEqual(cuts(drawer, "all", "a", 1), [0, 1, 2])
        self.assertEqual(cuts(drawer, "all", "b", 1), [0, 1])

    def test_a_book_that_several_cards_have(self):
        drawer = Drawer((Card("a", (), "", ("b", "c")), Card("b", (7,)), Card("c", (7,))))
        self.assertEqual(cuts(drawer, "all", "a", 7), [0])
        self.assertEqual(cuts(with_book("aa"), "all", "a", 7), [])
        self.assertEqual(cuts(with_book("aa"), "half", "a", 7), [])

    def test_a_book_that_is_not_reached_at_first(self):
        drawer = spread("ab", "b", "c")
        for rule in RULES:
            for heading, book in (("a", 3), ("x", 1), ("b", 1), ("a", 999)):
                self.assertEqual(cuts(drawer, rule, heading, book), [])
                self.assertEqual(least_loss(drawer, rule, heading, book), ())
            self.assertEqual(cuts(Drawer(()), rule, "a", 1), [])
            self.assertEqual(least_loss(Drawer(()), rule, "a", 1), ())

    def test_a_loss_that_brings_a_book_is_no_cut(self):
        drawer = Drawer((Card("b"), Card("a", (7,))))
        self.assertEqual(reach(drawer, "leaf", "a"), ())
        self.assertEqual(reach(drawer.without((0,)), "leaf", "a"), (7,))
        self.assertEqual(cuts(drawer, "leaf", "a", 7), [])
        self.assertEqual(least_loss(drawer, "leaf", "a", 7), ())

    def test_losses_change_what_is_looked_at_by_halves(self):
        # Without a card ahead, the middle one is another one.
        drawer = Drawer((Card("c"), Card("a", (7,)), Card("b")))
        self.assertEqual(cuts(drawer, "all", "a", 7), [1])
        self.assertEqual(cuts(drawer, "half", "a", 7), [1, 2])

    def test_the_list_may_be_modified(self):
        drawer = spread("a")
        cuts(drawer, "all", "a", 1).clear()
        cuts(drawer, "all", "a", 2).append(0)
        self.assertEqual(cuts(drawer, "all", "a", 1), [0])
        self.assertEqual(cuts(drawer, "all", "a", 2), [])


class LeastLossTest(unittest.TestCase):

    def test_one_place(self):
        self.assertEqual(least_loss(spread("x", "ab", "bc", "c"), "all", "a", 4), (1,))
        self.assertEqual(least_loss(spread("c", "x", "bc", "ab"), "all", "a", 1), (0,))

    def test_two_places_and_more(self):
        for rule in RULES:
            self.assertEqual(least_loss(with_book("aa"), rule, "a", 7), (0, 1))
            self.assertEqual(least_loss(with_book("aaab"), rule, "a", 7), (0, 1, 2))
            self.assertEqual(least_loss(with_book("aaaaaaaa"), rule, "a", 7), (0, 1, 2, 3, 4, 5, 6, 7))
        cards = (Card("b", (7,)), Card("c", (7,)), Card("d", (7,)), Card("a", (), "", ("b", "c", "d")), Card("a", (7,)))
        self.assertEqual(least_loss(Drawer(cards), "all", "a", 7), (3, 4))

    def test_of_several_the_first_one(self):
        cards = (Card("b", (7,)), Card("c", (7,)), Card("a", (), "", ("b", "c")), Card("a", (), "", ("b",)))
        self.assertEqual(least_loss(Drawer(cards), "all", "a", 7), (0, 1))
        cards = (Card("a", (), "", ("b",)), Card("a", (), "", ("b",)), Card("b", (7,)), Card("b", (7,)))
        self.assertEqual(least_loss(Drawer(cards), "all", "a", 7), (0, 1))

    def test_a_greater_loss_may_bring_a_book_back(self):
        drawer = Drawer((Card("a", (1,), "", ("b",)), Card("a", (5,)), Card("b", (5,))))
        self.assertEqual(cuts(drawer, "all", "a", 5), [2])
        self.assertEqual(least_loss(drawer, "all", "a", 5), (2,))
        self.assertEqual(reach(drawer.without((0, 2)), "all", "a"), (5,))

    def test_all_cards_may_have_to_be_lost(self):
        self.assertEqual(least_loss(with_book("a" * 11), "half", "a", 7), tuple(range(11)))

    def test_it_is_what_it_should_be(self):
        for drawer in some_drawers(100, 6, "abcd"):
            for rule in RULES:
                for book in reach(drawer, rule, "a"):
                    places = least_loss(drawer, rule, "a", book)
                    self.assertNotEqual(places, ())
                    self.assertNotIn(book, reach(drawer.without(places), rule, "a"))


class SafeBooksTest(unittest.TestCase):

    def test_none_lost(self):
        for drawer in [Drawer(()), *some_drawers(50, 8)]:
            for rule in RULES:
                self.assertEqual(safe_books(drawer, rule, "a", 0), reach(drawer, rule, "a"))

    def test_one_lost(self):
        drawer = Drawer((Card("a", (1, 7), "", ("b",)), Card("a", (7,)), Card("b", (2,))))
        self.assertEqual(safe_books(drawer, "all", "a", 0), (1, 2, 7))
        self.assertEqual(safe_books(drawer, "all", "a", 1), (7,))
        self.assertEqual(safe_books(drawer, "all", "a", 2), ())

    def test_two_lost(self):
        drawer = Drawer((Card("a", (1, 9)), Card("a", (3, 9)), Card("a", (1, 3, 9)), Card("a", (5,))))
        self.assertEqual([safe_books(drawer, "all", "a", count) for count in (0, 1, 2)], [(1, 9), (9,), (9,)])
        drawer = Drawer((Card("a", (1, 9)), Card("a", (3, 9)), Card("a", (5,))))
        self.assertEqual([safe_books(drawer, "all", "a", count) for count in (0, 1, 2)], [(1, 9), (9,), ()])

    def test_just_so_many_are_lost(self):
        # A book that is reached only once cards are lost is not safe if fewer of them are.
        drawer = Drawer((Card("b"), Card("b"), Card("b", (7,)), Card("b", (7,))))
        self.assertEqual([safe_books(drawer, "all", "b", count) for count in (0, 1, 2)], [(), (), ()])
        drawer = Drawer((Card("b", (7,)), Card("a", (7,))))
        self.assertEqual([safe_books(drawer, "leaf", "b", count) for count in (0, 1, 2)], [(7,), (), ()])

    def test_drawers_with_fewer_cards_than_are_lost(self):
        for rule in RULES:
            self.assertEqual(safe_books(spread("a"), rule, "a", 2), ())
            self.assertEqual(safe_books(spread("a"), rule, "a", 1), ())
            for count in (0, 1, 2):
                self.assertEqual(safe_books(Drawer(()), rule, "a", count), ())


class AllTest(unittest.TestCase):

    def test_against_the_reference(self):
        for drawer in some_drawers(100, 6, "abcd") + some_drawers(60, 6, "ab"):
            for rule in RULES:
                for heading in "abx":
                    for book in (1, 4, 9):
                        found = reference.cuts(drawer, rule, heading, book)
                        self.assertEqual(cuts(drawer, rule, heading, book), found)
                        found = reference.least_loss(drawer, rule, heading, book)
                        self.assertEqual(least_loss(drawer, rule, heading, book), found)
                    for count in (0, 1, 2):
                        found = reference.safe_books(drawer, rule, heading, count)
                        self.assertEqual(safe_books(drawer, rule, heading, count), found)

    def test_errors_in_their_order(self):
        drawer = spread("a", "b")
        for call in (cuts, least_loss, safe_books):
            for rule in NO_RULES:
                with self.assertRaises(InvalidRule):
                    call(drawer, rule, "", 3)
            for heading in NO_WORDS:
                with self.assertRaises(InvalidHeading):
                    call(drawer, "all", heading, 3)
        for count in (-1, 3, 16, 10 ** 18, True, False):
            with self.assertRaises(InvalidNumber):
                safe_books(drawer, "all", "a", count)
            with self.assertRaises(InvalidNumber):
                safe_books(Drawer(()), "all", "a", count)


if __name__ == "__main__":
    unittest.main()
