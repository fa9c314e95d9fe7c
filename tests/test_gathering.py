"""Gathering: points 8, 9 and 10."""

import unittest

from seerings.cards import Card
from seerings.drawers import Drawer
from seerings.errors import InvalidHeading, InvalidNumber, InvalidRule, InvalidWay, UnknownPlace
from seerings.gathering import (
    also_rings, fewest_headings, gather, hidden, leads_to, least_patience, reach,
)

from tests import examples, reference
from tests.made import NO_RULES, NO_WORDS, RULES, WAYS, plain, some_drawers, spread

NO_WAYS = ("", "Broad", "all", "straigh", None)


class GatherTest(unittest.TestCase):

    def test_example(self):
        examples.run(self, """
>>> from seerings.cards import Card
>>> from seerings.drawers import Drawer
>>> from seerings.gathering import also_rings, fewest_headings, gather, hidden, least_patience
>>> first, second = Card("bus", books=(1,), also=("rail", "tram")), Card("rail", books=(2,), also=("ship",))
>>> drawer = Drawer((first, second, Card("ship", books=(3,), also=("bus",)), Card("tram", books=(4,))))
>>> told = [gather(drawer, "all", way, "bus", 3) for way in ("broad", "deep", "straight")]
>>> more = [gather(drawer, "all", "straight", "bus", 99)[0], least_patience(drawer, "all", "straight", "bus", 4)]
>>> [told, more, also_rings(drawer, "all"), hidden(drawer, "all", ("tram",)), fewest_headings(drawer, "all")]
[[((1, 2, 4), (0, 1, 3), 3), ((1, 2, 3), (0, 1, 2), 3), ((1, 2, 3), (0, 1, 2), 3)], [(1, 2, 3), None], [(0, 1, 2)], [1, 2, 3], ('bus',)]
""")

    def test_broad_goes_on_behind_all_others(self):
        drawer = spread("abc", "bde", "cf", "d", "e", "f")
        self.assertEqual(gather(drawer, "all", "broad", "a", 99), ((1, 2, 3, 4, 5, 6), (0, 1, 2, 3, 4, 5), 6))

    def test_deep_goes_on_ahead_of_all_others(self):
        drawer = spread("abc", "bde", "cf", "d", "e", "f")
        self.assertEqual(gather(drawer, "all", "deep", "a", 99), ((1, 2, 3, 4, 5, 6), (0, 1, 3, 4, 2, 5), 6))

    def test_straight_goes_on_in_the_place_of_all_others(self):
        drawer = spread("abc", "bde", "cf", "d", "e", "f")
        self.assertEqual(gather(drawer, "all", "straight", "a", 99), ((1, 2, 4), (0, 1, 3), 3))

    def test_straight_ends_at_a_card_without_further_headings(self):
        drawer = spread("abc", "b", "c")
        self.assertEqual(gather(drawer, "all", "straight", "a", 99), ((1, 2), (0, 1), 2))

    def test_straight_goes_on_if_nothing_new_is_found(self):
        drawer = spread("axbc", "b", "c")
        self.assertEqual(gather(drawer, "all", "straight", "a", 99), ((1, 2), (0, 1), 3))
        drawer = spread("abc", "bad", "c", "d")
        self.assertEqual(gather(drawer, "all", "straight", "a", 99), ((1, 2, 4), (0, 1, 3), 3))

    def test_nothing_is_found(self):
        for way in WAYS:
            self.assertEqual(gather(Drawer(()), "all", way, "a", 99), ((), (), 1))
            self.assertEqual(gather(spread("ab"), "all", way, "x", 99), ((), (), 1))
            self.assertEqual(gather(Drawer((Card("a", see="b"), Card("b", see="a"))), "all", way, "a", 5), ((), (), 1))

    def test_walks_that_are_lost_count(self):
        self.assertEqual(gather(spread("axyb", "b"), "all", "broad", "a", 99), ((1, 2), (0, 1), 4))
        self.assertEqual(gather(spread("axyb", "b"), "all", "broad", "a", 3), ((1,), (0,), 3))

    def test_headings_walked_from_before_are_no_walks(self):
        drawer = spread("ab", "ba")
        for way in WAYS:
            self.assertEqual(gather(drawer, "all", way, "a", 99), ((1, 2), (0, 1), 2))
        drawer = spread("abc", "bca", "cab")
        self.assertEqual(gather(drawer, "all", "broad", "a", 99), ((1, 2, 3), (0, 1, 2), 3))
        self.assertEqual(gather(drawer, "all", "broad", "b", 3), ((1, 2, 3), (1, 2, 0), 3))

    def test_headings_that_were_only_passed_are_walked_from(self):
        cards = (Card("a", see="b"), Card("b", (1,), "", ("a", "c")), Card("c", (2,), "", ("b",)))
        self.assertEqual(gather(Drawer(cards), "all", "broad", "a", 99), ((1, 2), (1, 2), 3))

    def test_entry_cards_visited_before_are_not_visited_again(self):
        cards = (Card("a", (1,), "", ("s", "b")), Card("s", see="a"), Card("b", (2,)))
        for way in WAYS:
            self.assertEqual(gather(Drawer(cards), "all", way, "a", 99), ((1, 2), (0, 2), 3))
        self.assertEqual(gather(Drawer(cards), "all", "broad", "s", 99), ((1, 2), (0, 2), 2))

    def test_a_card_visited_again_leaves_the_agenda_as_it_is(self):
        cards = (Card("a", (1,), "", ("s", "b")), Card("s", see="a"), Card("b", (2,), "", ("c",)), Card("c", (3,)))
        self.assertEqual(gather(Drawer(cards), "all", "straight", "a", 99), ((1, 2, 3), (0, 2, 3), 4))

    def test_see_cards_are_passed(self):
        cards = (Card("s", see="r"), Card("r", see="a"), Card("a", (4, 9)))
        self.assertEqual(gather(Drawer(cards), "all", "deep", "s", 1), ((4, 9), (2,), 1))

    def test_books_are_told_once_and_ascend(self):
        cards = (Card("a", (3, 7, 9), "", ("b",)), Card("b", (1, 7), "", ("c",)), Card("c"))
        self.assertEqual(gather(Drawer(cards), "all", "broad", "a", 99), ((1, 3, 7, 9), (0, 1, 2), 3))

    def test_patience(self):
        drawer = spread("abc", "bde", "cf", "d", "e", "f")
        self.assertEqual(gather(drawer, "all", "broad", "a", 1), ((1,), (0,), 1))
        self.assertEqual(gather(drawer, "all", "broad", "a", 4), ((1, 2, 3, 4), (0, 1, 2, 3), 4))
        self.assertEqual(gather(drawer, "all", "deep", "a", 4), ((1, 2, 4, 5), (0, 1, 3, 4), 4))
        self.assertEqual(gather(drawer, "all", "broad", "a", 6), gather(drawer, "all", "broad", "a", 99))

    def test_a_whole_drawer(self):
        letters = "abcdefghijklmnop"
        rows = [letters[place:place + 2] for place in range(16)]
        self.assertEqual(gather(spread(*rows), "half", "deep", "a", 99)[1:], (tuple(range(16)), 16))
        cards = []
        for place, letter in enumerate(letters):
            words = tuple(letter + other for other in "wxy")
            cards.append(Card(letter, (), "", (letters[(place + 1) % 16], *words)))
        self.assertEqual(gather(Drawer(tuple(cards)), "all", "broad", "a", 99)[2], 64)

    def test_against_the_reference(self):
        for drawer in some_drawers(150, 10):
            for rule in RULES:
                for way in WAYS:
                    for heading in "abgh":
                        for patience in (1, 2, 3, 5, 99):
                            told = gather(drawer, rule, way, heading, patience)
                            self.assertEqual(told, reference.gather(drawer, rule, way, heading, patience))

    def test_errors_in_their_order(self):
        drawer = spread("a")
        for rule in NO_RULES:
            with self.assertRaises(InvalidRule):
                gather(drawer, rule, "", "", 0)
        for way in NO_WAYS:
            with self.assertRaises(InvalidWay):
                gather(drawer, "all", way, "", 0)
        for heading in NO_WORDS:
            with self.assertRaises(InvalidHeading):
                gather(drawer, "all", "broad", heading, 0)
        for patience in (0, -1, 100, 10 ** 9, True, False):
            with self.assertRaises(InvalidNumber):
                gather(drawer, "all", "broad", "a", patience)


class ReachTest(unittest.TestCase):

    def test_reach(self):
        drawer = spread("abx", "bc", "ca", "d")
        self.assertEqual(reach(drawer, "all", "a"), (1, 2, 3))
        self.assertEqual(reach(drawer, "all", "c"), (1, 2, 3))
        self.assertEqual(reach(drawer, "all", "d"), (4,))
        self.assertEqual(reach(drawer, "all", "x"), ())
        self.assertEqual(reach(Drawer(()), "half", "x"), ())

    def test_the_rule_tells_what_is_reached(self):
        drawer = spread("cab", "a", "b")
        self.assertEqual([reach(drawer, rule, "c") for rule in RULES], [(1, 2, 3), (1,), ()])

    def test_errors_in_their_order(self):
        for rule in NO_RULES:
            with self.assertRaises(InvalidRule):
                reach(spread("a"), rule, "")
        for heading in NO_WORDS:
            with self.assertRaises(InvalidHeading):
                reach(spread("a"), "all", heading)

    def test_against_the_reference(self):
        for drawer in some_drawers(150, 10):
            for rule in RULES:
                for heading in "abgh":
                    self.assertEqual(reach(drawer, rule, heading), reference.reach(drawer, rule, heading))


class HiddenTest(unittest.TestCase):

    def test_no_heading_reaches_nothing(self):
        cards = (Card("b", (3, 5)), Card("a", (1, 3)), Card("c"))
        self.assertEqual(hidden(Drawer(cards), "all", ()), [1, 3, 5])
        self.assertEqual(hidden(Drawer(()), "all", ()), [])
        self.assertEqual(hidden(Drawer(()), "all", ("a",)), [])

    def test_one_heading(self):
        drawer = spread("ab", "b", "c")
        self.assertEqual(hidden(drawer, "all", ("a",)), [3])
        self.assertEqual(hidden(drawer, "all", ("b",)), [1, 3])
        self.assertEqual(hidden(drawer, "all", ("x",)), [1, 2, 3])

    def test_several_headings(self):
        drawer = spread("ab", "b", "c", "d")
        self.assertEqual(hidden(drawer, "all", ("c", "a")), [4])
        self.assertEqual(hidden(drawer, "all", ("d", "c", "a")), [])
        self.assertEqual(hidden(drawer, "all", ("b", "b")), [1, 3, 4])

    def test_cards_that_are_never_found_have_hidden_books(self):
        drawer = Drawer((Card("a", (1,)), Card("a", (1, 2))))
        self.assertEqual(hidden(drawer, "all", ("a",)), [2])

    def test_errors_in_their_order(self):
        for rule in NO_RULES:
            with self.assertRaises(InvalidRule):
                hidden(spread("a"), rule, ("",))
            with self.assertRaises(InvalidRule):
                hidden(spread("a"), rule, ())
        for heading in NO_WORDS:
            for headings in ((heading,), ("a", heading), (heading, "a")):
                with self.assertRaises(InvalidHeading):
                    hidden(spread("a"), "all", headings)

    def test_the_list_may_be_modified(self):
        drawer = spread("a")
        hidden(drawer, "all", ()).clear()
        self.assertEqual(hidden(drawer, "all", ()), [1])


class LeastPatienceTest(unittest.TestCase):

    def test_the_ways_differ(self):
        drawer = spread("abc", "bde", "cf", "d", "e", "f")
        self.assertEqual([least_patience(drawer, "all", way, "a", 3) for way in WAYS], [3, 5, None])
        self.assertEqual([least_patience(drawer, "all", way, "a", 4) for way in WAYS], [4, 3, 3])
        self.assertEqual([least_patience(drawer, "all", way, "a", 1) for way in WAYS], [1, 1, 1])

    def test_walks_without_a_visit_count(self):
        self.assertEqual(least_patience(spread("axyb", "b"), "all", "broad", "a", 2), 4)

    def test_the_first_card_with_the_book_counts(self):
        cards = (Card("a", (), "", ("b", "c")), Card("b", (7,)), Card("c", (7, 8)))
        self.assertEqual(least_patience(Drawer(cards), "all", "broad", "a", 7), 2)
        self.assertEqual(least_patience(Drawer(cards), "all", "broad", "a", 8), 3)

    def test_none(self):
        drawer = spread("ab", "b", "c")
        for way in WAYS:
            self.assertIsNone(least_patience(drawer, "all", way, "a", 3))
            self.assertIsNone(least_patience(drawer, "all", way, "a", 999))
            self.assertIsNone(least_patience(Drawer(()), "all", way, "a", 1))

    def test_against_the_reference(self):
        for drawer in some_drawers(60, 8):
            for rule in RULES:
                for way in WAYS:
                    for book in (1, 4, 9):
                        told = least_patience(drawer, rule, way, "a", book)
                        self.assertEqual(told, reference.least_patience(drawer, rule, way, "a", book))

    def test_errors_in_their_order(self):
        for rule in NO_RULES:
            with self.assertRaises(InvalidRule):
                least_patience(spread("a"), rule, "", "", 1)
        for way in NO_WAYS:
            with self.assertRaises(InvalidWay):
                least_patience(spread("a"), "all", way, "", 1)
        for heading in NO_WORDS:
            with self.assertRaises(InvalidHeading):
                least_patience(spread("a"), "all", "deep", heading, 1)


class FewestHeadingsTest(unittest.TestCase):

    def test_none_needed(self):
        self.assertEqual(fewest_headings(Drawer(()), "all"), ())
        self.assertEqual(fewest_headings(plain("abc"), "all"), ())
        self.assertEqual(fewest_headings(Drawer((Card("a"), Card("a", (1,)))), "all"), ())

    def test_one_of_several_equal_ones(self):
        self.assertEqual(fewest_headings(spread("cab", "bca", "abc"), "all"), ("a",))
        self.assertEqual(fewest_headings(Drawer((Card("c", (1,)), Card("b", (1,)), Card("d", (1,)))), "all"), ("b",))

    def test_several(self):
        self.assertEqual(fewest_headings(spread("c", "b", "a"), "all"), ("a", "b", "c"))
        self.assertEqual(fewest_headings(spread("cb", "b", "a"), "all"), ("a", "c"))

    def test_of_several_the_first_one(self):
        cards = (Card("a", (1, 2)), Card("b", (3,)), Card("c", (3,)), Card("d", (1, 2)))
        self.assertEqual(fewest_headings(Drawer(cards), "all"), ("a", "b"))
        cards = (Card("a", (1,)), Card("b", (2, 3)), Card("c", (1, 2)), Card("d", (3,)))
        self.assertEqual(fewest_headings(Drawer(cards), "all"), ("a", "b"))

    def test_fewer_may_be_better_than_the_greatest_one_first(self):
        cards = (Card("a", (1, 2, 3, 4)), Card("b", (1, 2, 5)), Card("c", (3, 4, 6)))
        self.assertEqual(fewest_headings(Drawer(cards), "all"), ("b", "c"))

    def test_only_headings_of_cards(self):
        cards = (Card("b", (1,)), Card("c", see="b"), Card("d", (2,), "", ("a",)))
        self.assertEqual(fewest_headings(Drawer(cards), "all"), ("b", "d"))

    def test_sixteen_that_are_all_needed(self):
        drawer = spread(*"abcdefghijklmnop")
        self.assertEqual(fewest_headings(drawer, "half"), tuple("abcdefghijklmnop"))

    def test_against_the_reference(self):
        for drawer in some_drawers(150, 8):
            for rule in RULES:
                self.assertEqual(fewest_headings(drawer, rule), reference.fewest_headings(drawer, rule))

    def test_errors(self):
        for rule in NO_RULES:
            with self.assertRaises(InvalidRule):
                fewest_headings(spread("a"), rule)


class LeadsToTest(unittest.TestCase):

    def test_entry_cards(self):
        cards = (Card("a", (), "", ("s", "x", "c", "b")), Card("b"), Card("c"), Card("s", see="b"), Card("d"))
        drawer = Drawer(cards)
        self.assertEqual(leads_to(drawer, "all", 0), [1, 2])
        self.assertEqual(leads_to(drawer, "all", 1), [])

    def test_see_cards_lead_to_none(self):
        self.assertEqual(leads_to(Drawer((Card("s", see="b"), Card("b"))), "all", 0), [])

    def test_rings_lead_nowhere(self):
        cards = (Card("a", also=("s",)), Card("s", see="t"), Card("t", see="s"))
        self.assertEqual(leads_to(Drawer(cards), "all", 0), [])

    def test_a_card_can_lead_to_itself_and_to_one_of_its_heading(self):
        self.assertEqual(leads_to(Drawer((Card("a", also=("s",)), Card("s", see="a"))), "all", 0), [0])
        self.assertEqual(leads_to(Drawer((Card("a"), Card("a", also=("s",)), Card("s", see="a"))), "all", 1), [0])

    def test_the_rule_tells_where_cards_lead(self):
        drawer = spread("cab", "a", "b")
        self.assertEqual([leads_to(drawer, rule, 0) for rule in RULES], [[1, 2], [], [1, 2]])

    def test_against_the_reference(self):
        for drawer in some_drawers(150, 10):
            for rule in RULES:
                for place in range(len(drawer)):
                    self.assertEqual(leads_to(drawer, rule, place), reference.leads_to(drawer, rule, place))

    def test_errors_in_their_order(self):
        for rule in NO_RULES:
            with self.assertRaises(InvalidRule):
                leads_to(spread("a"), rule, 1)
        for place in (-1, 1, 16, True, False):
            with self.assertRaises(UnknownPlace):
                leads_to(spread("a"), "all", place)

    def test_the_list_may_be_modified(self):
        drawer = spread("ab", "b")
        leads_to(drawer, "all", 0).clear()
        self.assertEqual(leads_to(drawer, "all", 0), [1])


class AlsoRingsTest(unittest.TestCase):

    def test_none(self):
        self.assertEqual(also_rings(Drawer(()), "all"), [])
        self.assertEqual(also_rings(spread("ab", "bc", "c"), "all"), [])

    def test_one_card_alone_is_none(self):
        self.assertEqual(also_rings(Drawer((Card("a", also=("s",)), Card("s", see="a"))), "all"), [])

    def test_straight(self):
        self.assertEqual(also_rings(spread("ab", "ba", "c"), "all"), [(0, 1)])

    def test_through_others(self):
        self.assertEqual(also_rings(spread("ab", "bc", "cd", "da"), "all"), [(0, 1, 2, 3)])
        self.assertEqual(also_rings(spread("xa", "ab", "bca", "cd", "d"), "all"), [(1, 2)])

    def test_see_cards_are_passed_and_are_no_part(self):
        cards = (Card("s", see="b"), Card("a", also=("s",)), Card("b", also=("t",)), Card("t", see="a"))
        self.assertEqual(also_rings(Drawer(cards), "all"), [(1, 2)])

    def test_the_greatest_sets(self):
        self.assertEqual(also_rings(spread("ab", "bac", "cb"), "all"), [(0, 1, 2)])

    def test_several(self):
        drawer = spread("ae", "bd", "cab", "db", "eac")
        self.assertEqual(also_rings(drawer, "all"), [(0, 2, 4), (1, 3)])

    def test_cards_that_are_never_found_are_no_part(self):
        self.assertEqual(also_rings(spread("ab", "ab", "ba"), "all"), [(0, 2)])

    def test_against_the_reference(self):
        for drawer in some_drawers(150, 8) + some_drawers(50, 8, "abcde"):
            for rule in RULES:
                self.assertEqual(also_rings(drawer, rule), reference.also_rings(drawer, rule))

    def test_errors(self):
        for rule in NO_RULES:
            with self.assertRaises(InvalidRule):
                also_rings(spread("a"), rule)

    def test_the_list_may_be_modified(self):
        drawer = spread("ab", "ba")
        also_rings(drawer, "all").clear()
        self.assertEqual(also_rings(drawer, "all"), [(0, 1)])


if __name__ == "__main__":
    unittest.main()
