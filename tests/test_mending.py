"""Mending: point 11."""

import unittest

from seerings.cards import Card
from seerings.drawers import Drawer
from seerings.errors import InvalidHeading, InvalidNumber, InvalidRule
from seerings.gathering import reach
from seerings.mending import mend

from tests import examples, reference
from tests.made import NO_RULES, NO_WORDS, RULES, plain, some_drawers, spread

NO_NUMBERS = (-1, 3, 99, 10 ** 18, True, False)


class MendTest(unittest.TestCase):

    def test_example(self):
        examples.run(self, """
>>> from seerings.cards import Card
>>> from seerings.drawers import Drawer
>>> from seerings.mending import mend
>>> drawer = Drawer((Card("bus", books=(1,)), Card("rail", books=(2,)), Card("tram", see="bus")))
>>> [mend(drawer, "all", ("bus",), 1), mend(drawer, "all", ("bus", "rail"), 1), mend(drawer, "all", ("bus", "rail"), 2)]
[[(0, 'rail')], None, [(0, 'rail'), (1, 'bus')]]
""")

    def test_no_addition(self):
        for rule in RULES:
            for most in (0, 1, 2):
                self.assertEqual(mend(spread("ab", "b"), rule, ("a",), most), [])
                self.assertEqual(mend(Drawer(()), rule, ("a",), most), [])
                self.assertEqual(mend(plain("ab"), rule, ("a", "x"), most), [])

    def test_no_headings(self):
        for most in (0, 1, 2):
            self.assertEqual(mend(spread("a", "b", "c", "d"), "all", (), most), [])

    def test_one_addition(self):
        self.assertEqual(mend(spread("a", "b"), "all", ("a",), 1), [(0, "b")])
        self.assertEqual(mend(spread("a", "b"), "all", ("b",), 2), [(1, "a")])
        self.assertEqual(mend(spread("a", "bc", "cb"), "half", ("a",), 2), [(0, "b")])

    def test_two_additions(self):
        self.assertEqual(mend(spread("a", "b", "c"), "all", ("a",), 2), [(0, "b"), (0, "c")])
        self.assertEqual(mend(spread("a", "b", "cd", "d"), "leaf", ("a",), 2), [(0, "b"), (0, "c")])
        self.assertEqual(mend(spread("a", "b"), "all", ("a", "b"), 2), [(0, "b"), (1, "a")])

    def test_one_addition_may_serve_several_headings(self):
        self.assertEqual(mend(spread("ab", "b", "c"), "all", ("a", "b"), 1), None)
        self.assertEqual(mend(spread("ab", "ba", "c"), "all", ("a", "b"), 1), [(0, "c")])
        self.assertEqual(mend(spread("ab", "b", "c", "da"), "all", ("d", "a", "a"), 2), [(0, "c"), (0, "d")])

    def test_the_additions_allowed_are_not_enough(self):
        self.assertIsNone(mend(spread("a", "b"), "all", ("a",), 0))
        self.assertIsNone(mend(spread("a", "b", "c"), "all", ("a",), 1))
        self.assertIsNone(mend(spread("a", "b", "c", "d"), "all", ("a",), 2))
        self.assertIsNone(mend(spread("a", "b"), "all", ("a", "x"), 2))

    def test_a_shorter_list_comes_ahead_of_a_lesser_one(self):
        drawer = spread("a", "b", "cab")
        self.assertEqual(mend(drawer, "all", ("a",), 2), [(0, "c")])

    def test_of_several_lists_the_least_one(self):
        drawer = spread("ab", "bc", "c", "d")
        self.assertEqual(mend(drawer, "all", ("a",), 1), [(0, "d")])
        self.assertEqual(mend(drawer, "all", ("b",), 2), [(0, "d"), (1, "a")])
        self.assertEqual(mend(drawer, "all", ("c",), 2), [(0, "d"), (2, "a")])

    def test_cards_with_four_headings_have_no_room(self):
        drawer = Drawer((Card("a", (1,), "", ("w", "x", "y", "z")), Card("b", (2,))))
        self.assertIsNone(mend(drawer, "all", ("a",), 2))
        drawer = Drawer((Card("a", (1,), "", ("w", "x", "y")), Card("b", (2,)), Card("c", (3,))))
        self.assertEqual(mend(drawer, "all", ("a",), 2), [(0, "b"), (1, "c")])
        drawer = Drawer((Card("a", (1,), "", ("w", "x")), Card("b", (2,)), Card("c", (3,))))
        self.assertEqual(mend(drawer, "all", ("a",), 2), [(0, "b"), (0, "c")])

    def test_a_heading_of_its_own_or_that_it_has_is_not_added(self):
        drawer = Drawer((Card("b", (1,), "", ("c",)), Card("a", (2,)), Card("c", see="x")))
        self.assertEqual(mend(drawer, "all", ("b",), 2), [(0, "a")])
        for rule in RULES:
            self.assertIsNone(mend(Drawer((Card("b", (1,)), Card("b", (2,)), Card("b", (3,)))), rule, ("b",), 2))

    def test_see_cards_get_no_headings(self):
        drawer = Drawer((Card("a", see="b"), Card("b", (1,)), Card("c", (2,))))
        self.assertEqual(mend(drawer, "all", ("a",), 2), [(1, "c")])
        self.assertIsNone(mend(Drawer((Card("a", see="x"), Card("c", (2,)))), "all", ("a",), 2))

    def test_additions_through_see_cards(self):
        drawer = Drawer((Card("c", (1,)), Card("d", (2,)), Card("b", see="d")))
        self.assertEqual(mend(drawer, "all", ("c",), 2), [(0, "b")])

    def test_only_headings_of_cards_are_added(self):
        drawer = Drawer((Card("b", (1,)), Card("c", (2,), "", ("a",))))
        self.assertEqual(mend(drawer, "all", ("b",), 1), [(0, "c")])

    def test_books_of_cards_that_are_never_found(self):
        drawer = Drawer((Card("a", (1,)), Card("a", (2,)), Card("b", (3,))))
        self.assertIsNone(mend(drawer, "all", ("a",), 2))
        self.assertEqual(mend(drawer, "half", ("a",), 2), None)
        drawer = Drawer((Card("a", (1,)), Card("a", (1,)), Card("b", (3,))))
        self.assertEqual(mend(drawer, "all", ("a",), 2), [(0, "b")])
        self.assertEqual(mend(drawer, "half", ("a",), 2), [(1, "b")])

    def test_the_rule_tells_what_is_missing(self):
        drawer = spread("ba", "a", "c")
        self.assertEqual([mend(drawer, rule, ("b",), 2) for rule in RULES], [[(0, "c")], None, None])
        drawer = spread("c", "a", "b", "d")
        found = [mend(drawer, rule, ("d",), 2) for rule in RULES]
        self.assertEqual(found, [reference.mend(drawer, rule, ("d",), 2) for rule in RULES])

    def test_a_whole_drawer(self):
        letters = "abcdefghijklmnop"
        drawer = spread(*[letters[place:place + 2] for place in range(16)])
        self.assertEqual(mend(drawer, "half", tuple(letters), 2), [(15, "a")])
        drawer = spread(*letters)
        self.assertIsNone(mend(drawer, "half", ("a",), 2))

    def test_against_the_reference(self):
        several = 0
        for drawer in some_drawers(120, 5, "abcd") + some_drawers(60, 4, "ab"):
            for rule in RULES:
                for headings in (("a",), ("b", "a"), drawer.headings):
                    for most in (0, 1, 2):
                        told = mend(drawer, rule, headings, most)
                        self.assertEqual(told, reference.mend(drawer, rule, headings, most))
                        several += bool(told)
        self.assertGreater(several, 50)

    def test_spread_drawers_against_the_reference(self):
        for rows in ("a b c", "a b cd d", "ab b c d", "abc c b", "d c b a", "ab ba cd dc", "a a b c", "b a b a"):
            drawer = spread(*rows.split())
            for rule in RULES:
                for headings in (("a",), ("c",), ("a", "c"), ("b", "d")):
                    told = mend(drawer, rule, headings, 2)
                    self.assertEqual(told, reference.mend(drawer, rule, headings, 2), (rows, rule, headings))

    def test_the_additions_do_what_they_must(self):
        for drawer in some_drawers(60, 6):
            told = mend(drawer, "all", drawer.headings, 2)
            if told is not None:
                later = drawer
                for place, heading in told:
                    later = reference.added(later, place, heading)
                for heading in later.headings:
                    self.assertEqual(set(reach(later, "all", heading)), reference.books_of(drawer))

    def test_errors_in_their_order(self):
        drawer = spread("a", "b")
        for rule in NO_RULES:
            with self.assertRaises(InvalidRule):
                mend(drawer, rule, ("",), 3)
        for heading in NO_WORDS:
            for headings in ((heading,), ("a", heading), (heading, "a")):
                with self.assertRaises(InvalidHeading):
                    mend(drawer, "all", headings, 3)
        for most in NO_NUMBERS:
            with self.assertRaises(InvalidNumber):
                mend(drawer, "all", ("a",), most)
            with self.assertRaises(InvalidNumber):
                mend(Drawer(()), "all", (), most)

    def test_the_list_may_be_modified(self):
        drawer = spread("a", "b", "c")
        for headings in ((), ("a",)):
            first = mend(drawer, "all", headings, 2)
            second = list(first)
            first.append((0, "x"))
            self.assertEqual(mend(drawer, "all", headings, 2), second)


if __name__ == "__main__":
    unittest.main()
