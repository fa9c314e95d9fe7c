"""Walks: points 6 and 7."""

import unittest

from seerings.cards import Card
from seerings.drawers import Drawer
from seerings.errors import InvalidHeading, InvalidRule
from seerings.walks import dearest, landings, looks, see_rings, walk

from tests import examples, reference
from tests.made import RULES, plain, some_drawers


def leading(*pairs):
    """Return a drawer of see cards, from the first letter to the second, and of plain cards."""
    return Drawer(tuple(Card(pair[0], see=pair[1:]) for pair in pairs))


class WalkTest(unittest.TestCase):

    def test_example(self):
        examples.run(self, """
>>> from seerings.cards import Card
>>> from seerings.drawers import Drawer
>>> from seerings.walks import dearest, landings, looks, see_rings, walk
>>> first, second = Card("bus", see="coach"), Card("coach", see="bus")
>>> drawer = Drawer((first, second, Card("rail", also=("ship",)), Card("tram", see="rail")))
>>> told = [walk(drawer, "all", "tram"), looks(drawer, "all", "tram"), walk(drawer, "all", "bus"), looks(drawer, "all", "bus")]
>>> [told, landings(drawer, "leaf")["ship"], list(landings(drawer, "leaf")), see_rings(drawer, "half"), dearest(drawer, "all")]
[[('entry', (3, 2)), 7, ('ring', (0, 1)), 3], ('lost', None), ['bus', 'coach', 'rail', 'ship', 'tram'], [('bus', 'coach')], (7, 'tram')]
""")

    def test_entry(self):
        drawer = leading("a", "bc", "ca", "d")
        self.assertEqual(walk(drawer, "all", "a"), ("entry", (0,)))
        self.assertEqual(walk(drawer, "all", "c"), ("entry", (2, 0)))
        self.assertEqual(walk(drawer, "all", "b"), ("entry", (1, 2, 0)))

    def test_lost(self):
        drawer = leading("ab", "bx", "c")
        self.assertEqual(walk(drawer, "all", "a"), ("lost", (0, 1)))
        self.assertEqual(walk(drawer, "all", "x"), ("lost", ()))
        self.assertEqual(walk(drawer, "all", "zzz"), ("lost", ()))

    def test_ring(self):
        drawer = leading("ab", "bc", "ca", "d")
        self.assertEqual(walk(drawer, "all", "a"), ("ring", (0, 1, 2)))
        self.assertEqual(walk(drawer, "all", "c"), ("ring", (2, 0, 1)))

    def test_a_ring_that_is_entered_from_outside(self):
        drawer = leading("ab", "bc", "cb", "da")
        self.assertEqual(walk(drawer, "all", "a"), ("ring", (0, 1, 2)))
        self.assertEqual(walk(drawer, "all", "d"), ("ring", (3, 0, 1, 2)))
        self.assertEqual(looks(drawer, "all", "d"), 4 + 1 + 2 + 3)

    def test_no_cards(self):
        for rule in RULES:
            self.assertEqual(walk(Drawer(()), rule, "a"), ("lost", ()))
            self.assertEqual(looks(Drawer(()), rule, "a"), 0)
            self.assertEqual(landings(Drawer(()), rule), {})
            self.assertEqual(see_rings(Drawer(()), rule), [])
            self.assertIsNone(dearest(Drawer(()), rule))

    def test_the_rule_tells_where_a_walk_ends(self):
        drawer = leading("ba", "c", "a")
        self.assertEqual(walk(drawer, "all", "b"), ("entry", (0, 2)))
        self.assertEqual(walk(drawer, "leaf", "b"), ("lost", (0,)))
        self.assertEqual(walk(drawer, "half", "b"), ("lost", (0,)))

    def test_only_the_card_that_is_found_leads(self):
        drawer = leading("a", "ab", "b")
        self.assertEqual(walk(drawer, "all", "a"), ("entry", (0,)))
        self.assertEqual(walk(drawer, "half", "a"), ("entry", (1, 2)))

    def test_looks_of_a_whole_walk(self):
        drawer = leading("ac", "b", "cb", "d")
        self.assertEqual(looks(drawer, "all", "a"), 1 + 3 + 2)
        self.assertEqual(looks(drawer, "half", "a"), 2 + 2 + 1)
        self.assertEqual(looks(drawer, "leaf", "bb"), 3)
        self.assertEqual(looks(leading("ax", "b"), "all", "a"), 1 + 2)

    def test_against_the_reference(self):
        for drawer in some_drawers(300, 9):
            for rule in RULES:
                for heading in "abcdefgh":
                    word, places, total, _ = reference.walk(drawer, rule, heading)
                    self.assertEqual(walk(drawer, rule, heading), (word, places))
                    self.assertEqual(looks(drawer, rule, heading), total)

    def test_errors_in_their_order(self):
        for call in (walk, looks):
            for rule in ("", "any", "Half", None):
                with self.assertRaises(InvalidRule):
                    call(plain("a"), rule, "a")
                with self.assertRaises(InvalidRule):
                    call(plain("a"), rule, "A")
            for heading in ("", "A", "abcdefghi", "a-b"):
                with self.assertRaises(InvalidHeading):
                    call(plain("a"), "half", heading)


class KnownHeadingsTest(unittest.TestCase):

    def test_landings(self):
        drawer = Drawer((Card("d", see="b"), Card("b", (3,), "", ("g", "a")), Card("e", see="f"), Card("f", see="e")))
        ends = landings(drawer, "all")
        self.assertEqual(ends, {
            "a": ("lost", None), "b": ("entry", 1), "d": ("entry", 1), "e": ("ring", None), "f": ("ring", None),
            "g": ("lost", None),
        })
        self.assertEqual(list(ends), ["a", "b", "d", "e", "f", "g"])

    def test_headings_by_see_are_known(self):
        drawer = Drawer((Card("b", see="a"), Card("c")))
        self.assertEqual(list(landings(drawer, "all")), ["a", "b", "c"])

    def test_known_headings_of_cards_that_are_not_found(self):
        drawer = Drawer((Card("b"), Card("b", see="z"), Card("b", also=("a",)), Card("aa")))
        self.assertEqual(landings(drawer, "leaf"), {
            "a": ("lost", None), "aa": ("lost", None), "b": ("entry", 0), "z": ("lost", None),
        })

    def test_against_the_reference(self):
        for drawer in some_drawers(300, 9):
            for rule in RULES:
                ends = reference.landings(drawer, rule)
                self.assertEqual(list(landings(drawer, rule).items()), list(ends.items()))
                self.assertEqual(see_rings(drawer, rule), reference.see_rings(drawer, rule))
                totals = [(reference.walk(drawer, rule, heading)[2], heading) for heading in ends]
                most = max((total for total, heading in totals), default=None)
                told = [pair for pair in totals if pair[0] == most]
                self.assertEqual(dearest(drawer, rule), told[0] if told else None)

    def test_errors(self):
        for call in (landings, see_rings, dearest):
            for rule in ("", "any", "Half", None):
                with self.assertRaises(InvalidRule):
                    call(plain("a"), rule)
                with self.assertRaises(InvalidRule):
                    call(Drawer(()), rule)

    def test_dicts_and_lists_may_be_modified(self):
        drawer = leading("ab", "ba")
        landings(drawer, "all").clear()
        see_rings(drawer, "all").clear()
        self.assertEqual(landings(drawer, "all"), {"a": ("ring", None), "b": ("ring", None)})
        self.assertEqual(see_rings(drawer, "all"), [("a", "b")])


class SeeRingsTest(unittest.TestCase):

    def test_none(self):
        self.assertEqual(see_rings(leading("ab", "bc", "c"), "all"), [])
        self.assertEqual(see_rings(leading("ab", "bx"), "all"), [])
        self.assertEqual(see_rings(plain("abc"), "all"), [])

    def test_a_ring_of_two(self):
        self.assertEqual(see_rings(leading("ba", "ab"), "all"), [("a", "b")])

    def test_a_ring_goes_on_as_the_walk_does(self):
        self.assertEqual(see_rings(leading("ac", "ba", "cd", "db"), "all"), [("a", "c", "d", "b")])

    def test_those_outside_are_no_part_of_a_ring(self):
        self.assertEqual(see_rings(leading("ab", "bc", "cb"), "all"), [("b", "c")])
        self.assertEqual(see_rings(leading("ad", "bc", "cb", "db"), "all"), [("b", "c")])

    def test_several_rings(self):
        drawer = leading("fe", "ef", "ac", "bd", "ca", "dg", "gb")
        self.assertEqual(see_rings(drawer, "all"), [("a", "c"), ("b", "d", "g"), ("e", "f")])

    def test_the_rule_tells_which_rings_there_are(self):
        drawer = leading("ba", "ab")
        self.assertEqual(see_rings(drawer, "leaf"), [])
        self.assertEqual(see_rings(drawer, "half"), [])
        self.assertEqual(see_rings(leading("a", "ab", "ba"), "all"), [])
        self.assertEqual(see_rings(leading("a", "ab", "ba"), "half"), [("a", "b")])

    def test_also_makes_no_see_ring(self):
        self.assertEqual(see_rings(Drawer((Card("a", also=("b",)), Card("b", also=("a",)))), "all"), [])


class DearestTest(unittest.TestCase):

    def test_of_several_the_first_one(self):
        self.assertEqual(dearest(plain("ba"), "all"), (2, "a"))
        self.assertEqual(dearest(Drawer((Card("b", also=("d", "c")),)), "all"), (1, "b"))
        self.assertEqual(dearest(Drawer((Card("b", also=("d", "c")), Card("e"))), "all"), (2, "c"))
        self.assertEqual(dearest(Drawer((Card("z", also=("y",)), Card("x"))), "all"), (2, "x"))

    def test_headings_of_no_card_count(self):
        self.assertEqual(dearest(Drawer((Card("a"), Card("b", see="x"))), "all"), (4, "b"))
        self.assertEqual(dearest(Drawer((Card("a", also=("c",)), Card("a"), Card("a"))), "all"), (3, "c"))

    def test_one_heading(self):
        self.assertEqual(dearest(plain("a"), "half"), (1, "a"))


if __name__ == "__main__":
    unittest.main()
