"""Joining and splitting: point 17."""

import unittest

from seerings.cards import Card
from seerings.drawers import Drawer
from seerings.errors import InvalidDrawer, InvalidHeading, InvalidRule
from seerings.joining import best_split, joined, lost_by_split, split, still_found

from tests import examples, reference
from tests.made import NO_RULES, NO_WORDS, RULES, plain, some_drawers, spread


class ExampleTest(unittest.TestCase):

    def test_examples(self):
        examples.run(self, """
>>> from seerings.cards import Card
>>> from seerings.drawers import Drawer
>>> from seerings.joining import best_split, lost_by_split, still_found
>>> drawer = Drawer((Card("tram", books=(1,)), Card("bus", also=("tram",)), Card("rail", see="tram")))
>>> one, other = Drawer((Card("bus"), Card("rail", see="tram"))), Drawer((Card("tram"), Card("bus", books=(4,))))
>>> [still_found(one, other, "all"), lost_by_split(drawer, "half", "tram"), best_split(drawer, "all")]
[['bus'], [], 'rail']
""")
        examples.run(self, """
>>> from seerings.drawers import Drawer
>>> from seerings.joining import split
>>> split(Drawer(()), "Bus")
raises InvalidHeading()
""")


class JoinedTest(unittest.TestCase):

    def test_joined(self):
        one, other = spread("ab", "b"), spread("c", "a")
        self.assertEqual(joined(one, other).cards, one.cards + other.cards)
        self.assertEqual(joined(other, one).cards, other.cards + one.cards)
        self.assertEqual(joined(Drawer(()), one), one)
        self.assertEqual(joined(one, Drawer(())), one)
        self.assertEqual(joined(Drawer(()), Drawer(())), Drawer(()))

    def test_at_most_sixteen_cards(self):
        self.assertEqual(len(joined(plain("a" * 9), plain("b" * 7))), 16)
        for one, other in ((16, 1), (1, 16), (9, 8), (16, 16)):
            with self.assertRaises(InvalidDrawer):
                joined(plain("a" * one), plain("b" * other))


class StillFoundTest(unittest.TestCase):

    def test_the_cards_behind_change_nothing_for_all(self):
        self.assertEqual(still_found(spread("ab", "b"), spread("a", "c"), "all"), ["a", "b"])

    def test_an_equal_card_at_another_place(self):
        one = Drawer((Card("b", (1,)), Card("c")))
        other = Drawer((Card("b", (1,)), Card("d"), Card("e")))
        self.assertEqual(still_found(one, other, "half"), ["b"])
        other = Drawer((Card("b", (1,)), Card("b", (1,)), Card("b", (1,))))
        self.assertEqual(still_found(one, other, "half"), ["b"])

    def test_an_unlike_card(self):
        one = Drawer((Card("b", (1,)),))
        for card in (Card("b"), Card("b", (2,)), Card("b", (1,), "", ("c",)), Card("b", see="a")):
            self.assertEqual(still_found(one, Drawer((card, card)), "half"), [])
            self.assertEqual(still_found(one, Drawer((card, card)), "all"), ["b"])

    def test_a_card_that_is_not_found_any_more(self):
        self.assertEqual(still_found(plain("b"), plain("aa"), "half"), [])
        self.assertEqual(still_found(plain("ab"), plain("aaa"), "leaf"), ["a", "b"])

    def test_walks_that_were_not_at_an_end_do_not_count(self):
        one = Drawer((Card("a", see="c"), Card("b", also=("d",)), Card("e", see="f"), Card("f", see="e")))
        self.assertEqual(still_found(one, Drawer((Card("c"), Card("d"))), "all"), ["b"])

    def test_headings_to_which_cards_lead(self):
        one = Drawer((Card("a", see="c"), Card("c", (3,), "", ("d",)), Card("d")))
        self.assertEqual(still_found(one, Drawer(()), "all"), ["a", "c", "d"])

    def test_empty_drawers(self):
        for rule in RULES:
            self.assertEqual(still_found(Drawer(()), spread("a"), rule), [])
            self.assertEqual(still_found(spread("a"), Drawer(()), rule), ["a"])

    def test_against_the_reference(self):
        drawers = some_drawers(80, 8, "abcde")
        for one, other in zip(drawers, drawers[1:]):
            for rule in RULES:
                self.assertEqual(still_found(one, other, rule), reference.still_found(one, other, rule))

    def test_errors_in_their_order(self):
        for rule in (*NO_RULES, "all"):
            with self.assertRaises(InvalidDrawer):
                still_found(plain("a" * 9), plain("b" * 8), rule)
        for rule in NO_RULES:
            with self.assertRaises(InvalidRule):
                still_found(plain("a"), plain("b"), rule)


class SplitTest(unittest.TestCase):

    def test_the_cards_lie_as_they_did(self):
        drawer = spread("d", "a", "c", "b", "a")
        self.assertEqual(split(drawer, "c"), (drawer.without((0, 2)), drawer.without((1, 3, 4))))

    def test_the_heading_itself_belongs_behind(self):
        ahead, behind = split(plain("abc"), "b")
        self.assertEqual((ahead.headings, behind.headings), (("a",), ("b", "c")))

    def test_a_heading_that_is_none_of_the_drawer(self):
        ahead, behind = split(plain("abc"), "bb")
        self.assertEqual((ahead.headings, behind.headings), (("a", "b"), ("c",)))

    def test_an_empty_part(self):
        drawer = plain("cab")
        self.assertEqual(split(drawer, "a"), (Drawer(()), drawer))
        self.assertEqual(split(drawer, "d"), (drawer, Drawer(())))
        self.assertEqual(split(Drawer(()), "d"), (Drawer(()), Drawer(())))

    def test_errors(self):
        for heading in NO_WORDS:
            with self.assertRaises(InvalidHeading):
                split(plain("ab"), heading)


class LostBySplitTest(unittest.TestCase):

    def test_none_lost(self):
        self.assertEqual(lost_by_split(spread("ab", "b", "c"), "all", "b"), [])
        self.assertEqual(lost_by_split(Drawer(()), "half", "b"), [])
        self.assertEqual(lost_by_split(plain("abc"), "half", "a"), [])
        self.assertEqual(lost_by_split(plain("abc"), "half", "x"), [])

    def test_some_lost(self):
        # By halves, b is found only as long as it lies in the middle.
        self.assertEqual(lost_by_split(plain("cba"), "half", "b"), ["b"])
        self.assertEqual(lost_by_split(plain("cba"), "half", "c"), [])
        self.assertEqual(lost_by_split(plain("cdeab"), "half", "d"), ["c"])

    def test_an_unlike_card(self):
        drawer = Drawer((Card("b", (1,)), Card("b", (2,)), Card("a"), Card("a")))
        self.assertEqual(lost_by_split(drawer, "half", "b"), ["b"])
        drawer = Drawer((Card("b", (2,)), Card("b", (2,)), Card("a"), Card("a")))
        self.assertEqual(lost_by_split(drawer, "half", "b"), [])

    def test_what_is_found_only_behind_the_split_is_not_lost(self):
        self.assertEqual(lost_by_split(plain("ba"), "leaf", "b"), [])

    def test_walks_from_one_part_into_the_other(self):
        cards = (Card("a", see="d"), Card("b", (2,)), Card("c", see="b"), Card("d", see="c"))
        for border in "abcde":
            self.assertEqual(lost_by_split(Drawer(cards), "all", border), [])
        cards = (Card("a", see="d"), Card("d", (1,)), Card("d", (2,)))
        self.assertEqual(lost_by_split(Drawer(cards), "half", "b"), [])
        cards = (Card("a", see="d"), Card("b"), Card("d", (1,)), Card("d", (2,)), Card("d", (3,)))
        self.assertEqual(lost_by_split(Drawer(cards), "half", "c"), ["a", "d"])

    def test_rings_were_not_found_before(self):
        cards = (Card("a", see="b"), Card("b", see="a"), Card("c"))
        self.assertEqual(lost_by_split(Drawer(cards), "all", "b"), [])

    def test_a_ring_may_come_about_behind_a_split(self):
        lost = 0
        for drawer in some_drawers(300, 9, "abcd"):
            for border in "bcd":
                told = lost_by_split(drawer, "half", border)
                self.assertEqual(told, reference.lost_by_split(drawer, "half", border))
                lost += len(told)
        self.assertGreater(lost, 50)

    def test_against_the_reference(self):
        for drawer in some_drawers(100, 9):
            for rule in RULES:
                for border in ("a", "c", "cc", "e", "x"):
                    told = lost_by_split(drawer, rule, border)
                    self.assertEqual(told, reference.lost_by_split(drawer, rule, border))

    def test_errors_in_their_order(self):
        for rule in NO_RULES:
            with self.assertRaises(InvalidRule):
                lost_by_split(plain("ab"), rule, "")
        for heading in NO_WORDS:
            with self.assertRaises(InvalidHeading):
                lost_by_split(plain("ab"), "all", heading)


class BestSplitTest(unittest.TestCase):

    def test_none(self):
        for rule in RULES:
            for text in ("", "a", "aaa"):
                self.assertIsNone(best_split(plain(text), rule))
            self.assertIsNone(best_split(Drawer((Card("a", see="b"),)), rule))

    def test_of_several_the_least(self):
        self.assertEqual(best_split(plain("abcd"), "all"), "b")
        self.assertEqual(best_split(plain("dcba"), "all"), "b")
        self.assertEqual(best_split(plain("abcd"), "half"), "b")

    def test_the_fewest_are_lost(self):
        drawer = Drawer((Card("c"), Card("b", (1,)), Card("a"), Card("b", (2,)), Card("a")))
        told = [len(lost_by_split(drawer, "half", border)) for border in ("b", "c")]
        self.assertEqual(best_split(drawer, "half"), "b" if told[0] <= told[1] else "c")
        chosen = {best_split(drawer, "half") for drawer in some_drawers(100, 8, "abcd")}
        self.assertEqual(chosen, {None, "b", "c", "d"})

    def test_against_the_reference(self):
        for drawer in some_drawers(150, 9, "abcde"):
            for rule in RULES:
                self.assertEqual(best_split(drawer, rule), reference.best_split(drawer, rule))

    def test_errors(self):
        for rule in NO_RULES:
            for text in ("ab", ""):
                with self.assertRaises(InvalidRule):
                    best_split(plain(text), rule)


class ListTest(unittest.TestCase):

    def test_lists_may_be_modified(self):
        drawer = plain("cba")
        still_found(drawer, drawer, "all").clear()
        lost_by_split(drawer, "half", "b").clear()
        self.assertEqual(still_found(drawer, drawer, "all"), ["a", "b", "c"])
        self.assertEqual(lost_by_split(drawer, "half", "b"), ["b"])


if __name__ == "__main__":
    unittest.main()
