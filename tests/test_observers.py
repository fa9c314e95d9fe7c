"""Who is watched: point 25."""

import unittest

from seerings.cards import Card
from seerings.drawers import Drawer
from seerings.errors import Ended, InvalidHeading, InvalidRule, NoPair
from seerings.observers import Observer

from tests import examples, reference
from tests.made import NO_RULES, NO_WORDS, Dice, plain, some_drawers

# The rules as they ascend.
RULES = ("all", "half", "leaf")


def told(watch):
    """Return all that an observer tells."""
    return (
        watch.pairs, watch.places, watch.is_closed, watch.next_places(), watch.could_find(), watch.most_looks(),
    )


class ObserverCase(unittest.TestCase):

    def check_unchanged_by(self, error, watch, call):
        """Check that a call raises an error, and that the observer tells the same behind it."""
        before = told(watch)
        with self.assertRaises(error):
            call()
        self.assertEqual(told(watch), before)


class ExampleTest(unittest.TestCase):

    def test_examples(self):
        examples.run(self, """
>>> from seerings.cards import Card
>>> from seerings.drawers import Drawer
>>> from seerings.observers import Observer
>>> drawer = Drawer((Card("tram", books=(1,)), Card("bus", also=("tram",)), Card("rail", see="tram")))
>>> watch = Observer(drawer, ("all", "half"), ("bus", "rail", "tram"))
>>> [watch.next_places(), watch.saw(1), watch.could_find(), watch.most_looks(), watch.ended(), watch.pairs]
[[0, 1], 3, [1, 2], 1, 1, (('half', 'bus'),)]
""")
        examples.run(self, """
>>> from seerings.drawers import Drawer
>>> from seerings.observers import Observer
>>> Observer(Drawer(()), (), ("bus",))
raises NoPair()
""")


class NewObserverTest(unittest.TestCase):

    def test_pairs_stand_in_the_order_of_the_rules_then_of_the_headings(self):
        watch = Observer(plain("abc"), ("all", "half"), ("a", "c", "x"))
        pairs = (("all", "a"), ("all", "c"), ("all", "x"), ("half", "a"), ("half", "c"), ("half", "x"))
        self.assertEqual(told(watch), (pairs, (), False, [0, 1], [0, 2], 3))

    def test_all_three_rules(self):
        watch = Observer(plain("bac"), RULES, ("a", "c"))
        self.assertEqual(watch.pairs, tuple((rule, heading) for rule in RULES for heading in ("a", "c")))
        # The looks are 0 1 and 0 1 2; 1 and 1 2; and 0 and 0 1 2.
        self.assertEqual(told(watch)[3:], ([0, 1], [1, 2], 3))

    def test_nothing_to_choose(self):
        for rules, headings in (((), ()), ((), ("a",)), (("all",), ()), (RULES, ()), ((), ("a", "b"))):
            for drawer in (Drawer(()), plain("ab")):
                with self.assertRaises(NoPair):
                    Observer(drawer, rules, headings)

    def test_wrong_rules_come_first(self):
        for rule in NO_RULES:
            for rules in ((rule,), ("all", rule), (rule, "leaf")):
                for headings in ((), ("a",), ("",)):
                    with self.assertRaises(InvalidRule):
                        Observer(plain("ab"), rules, headings)

    def test_wrong_headings_come_next(self):
        for word in NO_WORDS:
            for headings in ((word,), ("a", word), (word, "a")):
                for rules in ((), ("all",), RULES):
                    with self.assertRaises(InvalidHeading):
                        Observer(plain("ab"), rules, headings)

    def test_no_cards(self):
        watch = Observer(Drawer(()), RULES, ("a", "b"))
        self.assertEqual(told(watch)[1:], ((), False, [], [], 0))
        self.assertEqual(watch.ended(), 6)
        self.assertEqual(told(watch)[1:], ((), True, [], [], 0))


class WatchingTest(ObserverCase):

    def test_saw(self):
        watch = Observer(plain("abcd"), ("all", "half"), ("b", "c", "d"))
        # The looks are 0 1, 0 1 2, 0 1 2 3; and 1, 1 2, 1 2 3.
        self.assertEqual(watch.saw(1), 3)
        pairs = (("half", "b"), ("half", "c"), ("half", "d"))
        self.assertEqual(told(watch), (pairs, (1,), False, [2], [1, 2, 3], 2))
        self.assertEqual(watch.saw(2), 2)
        self.assertEqual(told(watch), (pairs[1:], (1, 2), False, [3], [2, 3], 1))
        self.assertEqual(watch.saw(3), 1)
        self.assertEqual(told(watch), (pairs[2:], (1, 2, 3), False, [], [3], 0))

    def test_ended(self):
        watch = Observer(plain("abcd"), ("all", "half"), ("b", "c", "d"))
        watch.saw(0)
        watch.saw(1)
        self.assertEqual(watch.ended(), 1)
        self.assertEqual(told(watch), ((("all", "b"),), (0, 1), True, [], [1], 0))

    def test_headings_that_are_not_there(self):
        watch = Observer(plain("bd"), RULES, ("a", "c", "e"))
        # The looks are 0 1 each; 0, 0 1, 0 1; and 0, 0 1, 0 1.
        self.assertEqual(told(watch)[3:], ([0], [], 2))
        self.assertEqual((watch.saw(0), watch.next_places()), (9, [1]))
        self.assertEqual(watch.ended(), 2)
        self.assertEqual(told(watch), ((("half", "a"), ("leaf", "a")), (0,), True, [], [], 0))

    def test_a_place_at_which_no_pair_goes_on(self):
        for place in (0, 2, 3, 4, 99, -1, True, False):
            watch = Observer(plain("abcd"), ("half",), ("b", "c"))
            self.check_unchanged_by(NoPair, watch, lambda: watch.saw(place))
        watch = Observer(plain("abcd"), ("half",), ("b", "c"))
        watch.saw(1)
        for place in (0, 1, 3, 4):
            self.check_unchanged_by(NoPair, watch, lambda: watch.saw(place))
        watch.saw(2)
        for place in (0, 1, 2, 3):
            self.check_unchanged_by(NoPair, watch, lambda: watch.saw(place))
        self.assertEqual(watch.ended(), 1)

    def test_a_boolean_is_no_place(self):
        watch = Observer(plain("abcd"), ("all", "half"), ("c",))
        for place in (True, False):
            self.check_unchanged_by(NoPair, watch, lambda: watch.saw(place))

    def test_ended_where_no_pair_would_be_left(self):
        watch = Observer(plain("abcd"), RULES, ("b", "c"))
        self.check_unchanged_by(NoPair, watch, watch.ended)
        watch.saw(0)
        self.check_unchanged_by(NoPair, watch, watch.ended)
        self.assertEqual((watch.saw(1), watch.ended()), (4, 2))

    def test_behind_ended(self):
        for many in (1, 2):
            watch = Observer(plain("abcd"), ("half",), ("b", "c"))
            for place in (1, 2)[:many]:
                watch.saw(place)
            watch.ended()
            self.assertIs(watch.is_closed, True)
            for place in (0, 1, 2, 3, 99, True):
                self.check_unchanged_by(Ended, watch, lambda: watch.saw(place))
            self.check_unchanged_by(Ended, watch, watch.ended)

    def test_only_one_look_up_is_watched(self):
        watch = Observer(Drawer((Card("a", see="c"), Card("b"), Card("c"))), ("all",), ("a",))
        self.assertEqual(told(watch), ((("all", "a"),), (), False, [0], [0], 1))

    def test_cards_of_one_heading(self):
        watch = Observer(plain("aaa"), RULES, ("a",))
        self.assertEqual(told(watch)[3:], ([0, 1], [0, 1], 1))
        self.assertEqual((watch.saw(0), watch.pairs), (2, (("all", "a"), ("leaf", "a"))))

    def test_lists_may_be_modified(self):
        watch = Observer(plain("abc"), RULES, ("a", "c"))
        before = told(watch)
        watch.next_places().clear()
        watch.could_find().append(9)
        self.assertEqual(told(watch), before)

    def test_kinds_of_values(self):
        watch = Observer(plain("abc"), RULES, ("a", "c"))
        self.assertEqual([value.__class__ for value in told(watch)], [tuple, tuple, bool, list, list, int])
        self.assertIs(watch.saw(0).__class__, int)

    def test_against_the_reference(self):
        dice = Dice(18)
        closed, refused = 0, 0
        for drawer in some_drawers(200, 12, "abcdef"):
            rules = tuple(rule for rule in RULES if dice.throw(3)) or RULES
            headings = tuple(letter for letter in "abcdefg" if dice.throw(3)) or ("a",)
            watch, other = Observer(drawer, rules, headings), reference.Watch(drawer, rules, headings)
            for _ in range(8):
                pairs, further, found, most = other.told()
                self.assertEqual(told(watch), (pairs, other.seen, other.closed, further, found, most))
                place = dice.throw(len(drawer) + 1) if dice.throw(3) or not further else further[0]
                if dice.throw(6) == 0:
                    seen, closing, call = other.seen, True, watch.ended
                else:
                    seen, closing, call = (*other.seen, place), False, lambda: watch.saw(place)
                left = other.left(seen, closing)
                if other.closed or not left:
                    refused += 1
                    self.check_unchanged_by(Ended if other.closed else NoPair, watch, call)
                else:
                    self.assertEqual(call(), len(left))
                    other.seen, other.closed = seen, closing
                    closed += closing
        self.assertGreater(min(closed, refused), 50)


if __name__ == "__main__":
    unittest.main()
