"""Looking up: point 4."""

import unittest

from seerings.cards import Card
from seerings.drawers import Drawer
from seerings.errors import InvalidHeading, InvalidRule, UnknownPlace
from seerings.lookups import look_up, never_found, why_not

from tests import examples, reference
from tests.made import RULES, plain, plain_drawers

NO_RULES = ("", "All", "leafs", "broad", "hal", "all ", None, 0)
NO_WORDS = ("", "Bus", "abcdefghi", "a b", "a1", " ")


def row_of(drawer):
    return [card.heading for card in drawer.cards]


class LookUpTest(unittest.TestCase):

    def test_examples(self):
        examples.run(self, """
>>> from seerings.cards import Card
>>> from seerings.drawers import Drawer
>>> from seerings.lookups import look_up, never_found, why_not
>>> drawer = Drawer((Card("bus"), Card("tram"), Card("rail"), Card("tram", books=(2,))))
>>> found = [look_up(drawer, rule, "rail") for rule in ("all", "leaf", "half")]
>>> never = [never_found(drawer, rule) for rule in ("all", "leaf", "half")]
>>> [found, never, [why_not(drawer, "half", 2), why_not(drawer, "half", 3), why_not(drawer, "all", 2)]]
[[(2, (0, 1, 2)), (None, (0, 1)), (None, (1, 0))], [[3], [2, 3], [2, 3]], [('nothing', 0), ('other', 1), None]]
""")
        examples.run(self, """
>>> from seerings.drawers import Drawer
>>> from seerings.lookups import look_up
>>> look_up(Drawer(()), "all", "Bus")
raises InvalidHeading()
""")

    def test_no_cards(self):
        for rule in RULES:
            self.assertEqual(look_up(Drawer(()), rule, "a"), (None, ()))
            self.assertEqual(never_found(Drawer(()), rule), [])

    def test_one_card(self):
        for rule in RULES:
            self.assertEqual(look_up(plain("b"), rule, "b"), (0, (0,)))
            self.assertEqual(look_up(plain("b"), rule, "a"), (None, (0,)))
            self.assertEqual(look_up(plain("b"), rule, "c"), (None, (0,)))
            self.assertEqual(never_found(plain("b"), rule), [])

    def test_all_in_a_filed_drawer(self):
        self.assertEqual(look_up(plain("abddf"), "all", "a"), (0, (0,)))
        self.assertEqual(look_up(plain("abddf"), "all", "d"), (2, (0, 1, 2)))
        self.assertEqual(look_up(plain("abddf"), "all", "c"), (None, (0, 1, 2, 3, 4)))

    def test_leaf_in_a_filed_drawer(self):
        self.assertEqual(look_up(plain("abddf"), "leaf", "d"), (2, (0, 1, 2)))
        self.assertEqual(look_up(plain("abddf"), "leaf", "c"), (None, (0, 1, 2)))
        self.assertEqual(look_up(plain("abddf"), "leaf", "f"), (4, (0, 1, 2, 3, 4)))
        self.assertEqual(look_up(plain("abddf"), "leaf", "g"), (None, (0, 1, 2, 3, 4)))

    def test_half_in_a_filed_drawer(self):
        self.assertEqual(look_up(plain("abddf"), "half", "d"), (2, (2,)))
        self.assertEqual(look_up(plain("abddf"), "half", "b"), (1, (2, 0, 1)))
        self.assertEqual(look_up(plain("abddf"), "half", "f"), (4, (2, 3, 4)))
        self.assertEqual(look_up(plain("abddf"), "half", "e"), (None, (2, 3, 4)))
        self.assertEqual(look_up(plain("abdd"), "half", "d"), (2, (1, 2)))

    def test_cards_that_are_not_filed(self):
        drawer = plain("cadb")
        self.assertEqual(look_up(drawer, "all", "b"), (3, (0, 1, 2, 3)))
        self.assertEqual(look_up(drawer, "leaf", "b"), (None, (0,)))
        self.assertEqual(look_up(drawer, "leaf", "d"), (2, (0, 1, 2)))
        self.assertEqual(look_up(drawer, "half", "b"), (None, (1, 2)))
        self.assertEqual(look_up(drawer, "half", "c"), (None, (1, 2)))

    def test_half_of_sixteen(self):
        drawer = plain("abcdefghijklmnop")
        self.assertEqual(look_up(drawer, "half", "h"), (7, (7,)))
        self.assertEqual(look_up(drawer, "half", "p"), (15, (7, 11, 13, 14, 15)))
        self.assertEqual(look_up(drawer, "half", "a"), (0, (7, 3, 1, 0)))

    def test_see_cards_are_found_like_others(self):
        drawer = Drawer((Card("a", see="c"), Card("b", see="a")))
        for rule in RULES:
            self.assertEqual(look_up(drawer, rule, "b"), (1, (0, 1)))

    def test_against_the_reference(self):
        for drawer in plain_drawers("bdf", 5):
            for rule in RULES:
                for heading in "abcdefg":
                    self.assertEqual(look_up(drawer, rule, heading), reference.look_up(row_of(drawer), rule, heading))

    def test_errors_in_their_order(self):
        for rule in NO_RULES:
            with self.assertRaises(InvalidRule):
                look_up(plain("a"), rule, "a")
            with self.assertRaises(InvalidRule):
                look_up(plain("a"), rule, "A")
        for heading in NO_WORDS:
            with self.assertRaises(InvalidHeading):
                look_up(plain("a"), "all", heading)


class NeverFoundTest(unittest.TestCase):

    def test_never_found(self):
        self.assertEqual(never_found(plain("abab"), "all"), [2, 3])
        self.assertEqual(never_found(plain("cadb"), "all"), [])
        self.assertEqual(never_found(plain("cadb"), "leaf"), [1, 3])
        self.assertEqual(never_found(plain("cadb"), "half"), [0, 3])
        self.assertEqual(never_found(plain("aaa"), "half"), [0, 2])

    def test_against_the_reference(self):
        for drawer in plain_drawers("bdf", 5):
            row = row_of(drawer)
            for rule in RULES:
                found = {reference.look_up(row, rule, heading)[0] for heading in "abcdefg"}
                never = [place for place in range(len(row)) if place not in found]
                self.assertEqual(never_found(drawer, rule), never)
                self.assertEqual([place for place in range(len(row)) if why_not(drawer, rule, place)], never)

    def test_errors(self):
        for rule in NO_RULES:
            with self.assertRaises(InvalidRule):
                never_found(plain("a"), rule)

    def test_the_list_may_be_modified(self):
        drawer = plain("aa")
        never_found(drawer, "all").append(0)
        self.assertEqual(never_found(drawer, "all"), [1])


class WhyNotTest(unittest.TestCase):

    def test_three_kinds_of_answers(self):
        drawer = plain("cadba")
        self.assertEqual([why_not(drawer, "all", place) for place in range(5)],
                         [None, None, None, None, ("other", 1)])
        self.assertEqual([why_not(drawer, "leaf", place) for place in range(5)],
                         [None, ("nothing", 0), None, ("nothing", 0), ("nothing", 0)])
        self.assertEqual([why_not(drawer, "half", place) for place in range(5)],
                         [None, ("nothing", 0), None, ("nothing", 0), ("nothing", 0)])
        self.assertEqual([why_not(plain("aaa"), "half", place) for place in range(3)],
                         [("other", 1), None, ("other", 1)])

    def test_the_last_look_is_told(self):
        self.assertEqual(why_not(plain("bca"), "leaf", 2), ("nothing", 0))
        self.assertEqual(why_not(plain("bacb"), "half", 0), ("nothing", 2))
        self.assertEqual(why_not(plain("dabe"), "half", 0), ("nothing", 3))

    def test_against_the_reference(self):
        for drawer in plain_drawers("abc", 5):
            row = row_of(drawer)
            for rule in RULES:
                for place, heading in enumerate(row):
                    found, looks = reference.look_up(row, rule, heading)
                    told = {None: ("nothing", looks[-1]), place: None}.get(found, ("other", found))
                    self.assertEqual(why_not(drawer, rule, place), told)

    def test_errors_in_their_order(self):
        for rule in NO_RULES:
            with self.assertRaises(InvalidRule):
                why_not(plain("ab"), rule, 0)
            with self.assertRaises(InvalidRule):
                why_not(plain("ab"), rule, 2)
        for place in (-1, 2, 16, True, False):
            with self.assertRaises(UnknownPlace):
                why_not(plain("ab"), "all", place)
        with self.assertRaises(UnknownPlace):
            why_not(Drawer(()), "all", 0)


if __name__ == "__main__":
    unittest.main()
