"""What was lost, and by which rule was looked up: points 14, 15 and 16."""

import unittest

from seerings.cards import Card
from seerings.drawers import Drawer
from seerings.errors import InvalidLog, InvalidNumber, InvalidRule, NoLoss, UnknownPlace
from seerings.traces import difference, judged, next_heading, possible_losses, possible_rules
from seerings.walks import looks

from tests import examples, reference
from tests.made import NO_RULES, NO_WORDS, RULES, plain, some_drawers, spread

NO_NUMBERS = (-1, 4, 99, 10 ** 18, True, False)


def logs_of(drawer, rule):
    """Return logs, some of which come about, some of which do not."""
    logs = [[], [("a", ())], [("a", (1,))], [("b", ()), ("a", (4, 9))]]
    for places in ((), (0,), (1,), (0, 2), (1, 2, 3)):
        left = drawer.without(tuple(place for place in places if place < len(drawer)))
        logs.append([("a", reference.reach(left, rule, "a"))])
        logs.append([(heading, reference.reach(left, rule, heading)) for heading in ("c", "a", "b")])
    return logs


class ExampleTest(unittest.TestCase):

    def test_example(self):
        examples.run(self, """
>>> from seerings.cards import Card
>>> from seerings.drawers import Drawer
>>> from seerings.traces import difference, judged, next_heading, possible_losses, possible_rules
>>> drawer = Drawer((Card("bus", books=(1,), also=("tram",)), Card("rail", see="bus"), Card("tram", books=(2,))))
>>> told = [possible_losses(drawer, "all", [("bus", (1,))], 2), judged(drawer, "all", [("bus", (1,))], 2, 1)]
>>> told.extend([next_heading(drawer, "all", [("bus", (1,))], 2), difference(drawer, "all", "half")])
>>> [told, possible_rules(drawer, [("tram", 2)])]
[[[(2,), (1, 2)], 'perhaps', 'rail', None], ['half']]
""")


class PossibleLossesTest(unittest.TestCase):

    def test_a_log_with_nothing_leaves_all_open(self):
        drawer = spread("a", "b", "c", "d")
        self.assertEqual(possible_losses(drawer, "all", [], 0), [()])
        self.assertEqual(possible_losses(drawer, "all", [], 1), [(), (0,), (1,), (2,), (3,)])
        self.assertEqual(possible_losses(drawer, "all", [], 2)[5:], [(0, 1), (0, 2), (0, 3), (1, 2), (1, 3), (2, 3)])
        self.assertEqual(possible_losses(drawer, "all", [], 3)[11:], [(0, 1, 2), (0, 1, 3), (0, 2, 3), (1, 2, 3)])

    def test_drawers_with_fewer_cards_than_can_be_lost(self):
        for most in range(4):
            self.assertEqual(possible_losses(Drawer(()), "all", [], most), [()])
            self.assertEqual(possible_losses(Drawer(()), "all", [("a", ())], most), [()])
            self.assertEqual(possible_losses(Drawer(()), "all", [("a", (1,))], most), [])
        self.assertEqual(possible_losses(plain("ab"), "all", [], 3), [(), (0,), (1,), (0, 1)])

    def test_a_log_with_one_tuple(self):
        drawer = spread("ab", "bc", "c")
        self.assertEqual(possible_losses(drawer, "all", [("a", (1, 2))], 3), [(2,)])
        self.assertEqual(possible_losses(drawer, "all", [("a", (1,))], 3), [(1,), (1, 2)])
        self.assertEqual(possible_losses(drawer, "all", [("a", ())], 3), [(0,), (0, 1), (0, 2), (0, 1, 2)])
        self.assertEqual(possible_losses(drawer, "all", [("a", (1, 2, 3))], 3), [()])
        self.assertEqual(possible_losses(drawer, "all", [("c", (3,))], 1), [(), (0,), (1,)])

    def test_a_log_with_several_tuples(self):
        drawer = spread("ab", "bc", "c")
        self.assertEqual(possible_losses(drawer, "all", [("a", (1,)), ("c", (3,))], 3), [(1,)])
        self.assertEqual(possible_losses(drawer, "all", [("a", ()), ("c", (3,)), ("b", (2, 3))], 3), [(0,)])
        self.assertEqual(possible_losses(drawer, "all", [("a", ()), ("a", ())], 1), [(0,)])

    def test_logs_that_cannot_come_about(self):
        drawer = spread("ab", "bc", "c")
        for log in ([("a", (9,))], [("a", (3,))], [("a", (1,)), ("a", ())], [("x", (1,))], [("a", (2, 1))]):
            for most in range(4):
                self.assertEqual(possible_losses(drawer, "all", log, most), [])
        self.assertEqual(possible_losses(drawer, "all", [("a", (1,))], 0), [])

    def test_a_loss_can_let_a_card_be_found(self):
        drawer = Drawer((Card("a", (1,)), Card("a", (2,)), Card("a", (3,))))
        self.assertEqual(possible_losses(drawer, "all", [("a", (3,))], 2), [(0, 1)])
        self.assertEqual(possible_losses(drawer, "half", [("a", (3,))], 2), [(0, 1)])
        self.assertEqual(possible_losses(drawer, "half", [("a", (1,))], 2), [(1,), (2,), (1, 2)])
        self.assertEqual(possible_losses(spread("b", "a"), "leaf", [("a", (2,))], 1), [(0,)])

    def test_a_whole_drawer(self):
        drawer = spread(*"abcdefghijklmnop")
        self.assertEqual(len(possible_losses(drawer, "half", [], 3)), 1 + 16 + 120 + 560)

    def test_a_log_is_as_before(self):
        log = [("a", (1,)), ("b", ())]
        drawer = spread("a", "b")
        possible_losses(drawer, "all", log, 3)
        judged(drawer, "all", log, 3, 0)
        next_heading(drawer, "all", log, 3)
        self.assertEqual(log, [("a", (1,)), ("b", ())])
        counts = [("a", 1), ("b", 2)]
        possible_rules(drawer, counts)
        self.assertEqual(counts, [("a", 1), ("b", 2)])

    def test_the_list_may_be_modified(self):
        drawer = spread("a", "b")
        possible_losses(drawer, "all", [], 1).clear()
        possible_rules(drawer, []).clear()
        self.assertEqual(possible_losses(drawer, "all", [], 1), [(), (0,), (1,)])
        self.assertEqual(possible_rules(drawer, []), ["all", "half", "leaf"])


class JudgedTest(unittest.TestCase):

    def test_words(self):
        drawer = spread("ab", "b", "c")
        log = [("a", (1,))]
        self.assertEqual([judged(drawer, "all", log, 2, place) for place in range(3)], ["never", "surely", "perhaps"])
        self.assertEqual([judged(drawer, "all", log, 1, place) for place in range(3)], ["never", "surely", "never"])
        self.assertEqual([judged(drawer, "all", [], 0, place) for place in range(3)], ["never"] * 3)
        self.assertEqual([judged(drawer, "all", [], 1, place) for place in range(3)], ["perhaps"] * 3)

    def test_no_losses_are_possible(self):
        drawer = spread("ab", "b", "c")
        for most in range(4):
            with self.assertRaises(NoLoss):
                judged(drawer, "all", [("a", (9,))], most, 0)
        with self.assertRaises(NoLoss):
            judged(drawer, "all", [("a", (1,))], 0, 0)

    def test_errors_behind_those_of_a_log(self):
        for place in (3, -1, 16, True, False):
            for log in ([], [("a", (9,))]):
                with self.assertRaises(UnknownPlace):
                    judged(spread("ab", "b", "c"), "all", log, 2, place)
        with self.assertRaises(UnknownPlace):
            judged(Drawer(()), "all", [("a", (1,))], 2, 0)


class NextHeadingTest(unittest.TestCase):

    def test_the_fewest_are_left_in_the_worst_case(self):
        # A loss of a card is told by its own heading, and that of the third one by both others, too.
        drawer = spread("ac", "bc", "c")
        self.assertEqual(next_heading(drawer, "all", [], 1), "a")
        drawer = Drawer((Card("a", (1,)), Card("b", (2,), "", ("c", "d")), Card("c", (3,)), Card("d", (4,))))
        self.assertEqual(next_heading(drawer, "all", [], 1), "b")

    def test_of_several_the_first_one(self):
        self.assertEqual(next_heading(spread("c", "b", "a"), "all", [], 2), "a")
        self.assertEqual(next_heading(spread("cb", "b", "ba"), "all", [], 0), "b")

    def test_what_is_known_of_one_heading_is_asked_of_another(self):
        drawer = spread("a", "b", "c")
        self.assertEqual(next_heading(drawer, "all", [("a", (1,))], 3), "b")
        self.assertEqual(next_heading(drawer, "all", [("a", (1,)), ("b", ())], 3), "c")
        self.assertEqual(next_heading(drawer, "all", [("a", (1,)), ("b", ()), ("c", ())], 3), "a")

    def test_none(self):
        for most in range(4):
            self.assertIsNone(next_heading(Drawer(()), "all", [], most))
            self.assertIsNone(next_heading(Drawer(()), "all", [("a", (1,))], most))
            self.assertIsNone(next_heading(spread("a"), "all", [("a", (9,))], most))

    def test_only_headings_of_cards(self):
        drawer = Drawer((Card("b", (1,), "", ("a",)), Card("c", (2,))))
        self.assertEqual(next_heading(drawer, "all", [], 1), "b")


class LogTest(unittest.TestCase):

    def test_against_the_reference(self):
        for drawer in some_drawers(50, 6, "abcd") + some_drawers(20, 6, "ab"):
            for rule in RULES:
                for log in logs_of(drawer, rule):
                    for most in range(4):
                        losses = reference.possible_losses(drawer, rule, log, most)
                        self.assertEqual(possible_losses(drawer, rule, log, most), losses)
                    found = reference.next_heading(drawer, rule, log, 2)
                    self.assertEqual(next_heading(drawer, rule, log, 2), found)
                    for place in range(len(drawer)):
                        lost = [place in places for places in losses]
                        if lost:
                            word = "surely" if all(lost) else "perhaps" if any(lost) else "never"
                            self.assertEqual(judged(drawer, rule, log, 3, place), word)

    def test_errors_in_their_order(self):
        drawer = spread("a", "b")
        calls = (possible_losses, next_heading, lambda *given: judged(*given, 9))
        for call in calls:
            for rule in NO_RULES:
                with self.assertRaises(InvalidRule):
                    call(drawer, rule, [("", ())], 4)
            for word in NO_WORDS:
                for index, log in enumerate(([(word, ())], [("a", ()), (word, ())], [("a", ())] * 2 + [(word, ())] * 2)):
                    with self.assertRaises(InvalidLog) as caught:
                        call(drawer, "all", log, 4)
                    self.assertEqual(caught.exception.index, index)
            for most in NO_NUMBERS:
                with self.assertRaises(InvalidNumber):
                    call(drawer, "all", [("a", ())], most)
                with self.assertRaises(InvalidNumber):
                    call(Drawer(()), "all", [], most)


class DifferenceTest(unittest.TestCase):

    def test_equal_rules(self):
        for drawer in [Drawer(()), *some_drawers(50, 8)]:
            for rule in RULES:
                self.assertIsNone(difference(drawer, rule, rule))

    def test_none(self):
        self.assertIsNone(difference(Drawer(()), "all", "leaf"))
        self.assertIsNone(difference(plain("abcdef"), "all", "leaf"))
        self.assertIsNone(difference(plain("abcdef"), "leaf", "half"))

    def test_another_word(self):
        self.assertEqual(difference(plain("ba"), "all", "leaf"), "a")
        self.assertEqual(difference(plain("cab"), "leaf", "all"), "a")
        drawer = Drawer((Card("a", see="b"), Card("c"), Card("b", see="a")))
        self.assertEqual(difference(drawer, "all", "leaf"), "a")

    def test_another_card(self):
        self.assertEqual(difference(plain("aaa"), "all", "half"), "a")
        self.assertIsNone(difference(plain("aaa"), "all", "leaf"))

    def test_cards_that_are_equal_are_others(self):
        self.assertEqual(difference(Drawer((Card("a", (1,)),) * 3), "all", "half"), "a")

    def test_walks_that_are_lost_end_alike(self):
        drawer = Drawer((Card("a", see="x"), Card("a", see="y"), Card("b")))
        self.assertIsNone(difference(drawer, "all", "half"))

    def test_a_heading_to_which_a_see_card_leads(self):
        drawer = Drawer((Card("c", see="b"), Card("d"), Card("b")))
        self.assertEqual(difference(drawer, "all", "leaf"), "b")
        drawer = Drawer((Card("b", see="a"), Card("c", see="a"), Card("c")))
        self.assertEqual(difference(drawer, "all", "half"), None)

    def test_a_heading_of_an_also(self):
        drawer = Drawer((Card("c", also=("aa",)), Card("aa")))
        self.assertEqual(difference(drawer, "all", "leaf"), "aa")

    def test_headings_that_are_not_known_do_not_count(self):
        self.assertIsNone(difference(Drawer((Card("b", also=("a",)), Card("b"))), "all", "leaf"))

    def test_against_the_reference(self):
        for drawer in some_drawers(150, 8):
            for one in RULES:
                for other in RULES:
                    self.assertEqual(difference(drawer, one, other), reference.difference(drawer, one, other))

    def test_errors(self):
        for rule in NO_RULES:
            for one, other in ((rule, "all"), ("all", rule), (rule, rule)):
                with self.assertRaises(InvalidRule):
                    difference(plain("ab"), one, other)


class PossibleRulesTest(unittest.TestCase):

    def test_no_counts(self):
        self.assertEqual(possible_rules(plain("ab"), []), ["all", "half", "leaf"])
        self.assertEqual(possible_rules(Drawer(()), []), ["all", "half", "leaf"])

    def test_each_rule(self):
        drawer = plain("cabd")
        self.assertEqual(possible_rules(drawer, [("b", 3)]), ["all"])
        self.assertEqual(possible_rules(drawer, [("b", 1)]), ["leaf"])
        self.assertEqual(possible_rules(drawer, [("b", 2)]), ["half"])
        self.assertEqual(possible_rules(drawer, [("c", 1)]), ["all", "leaf"])
        self.assertEqual(possible_rules(drawer, [("a", 1)]), ["half", "leaf"])

    def test_wrong_counts(self):
        for count in (0, 4, 99, -1):
            self.assertEqual(possible_rules(plain("cabd"), [("b", count)]), [])
        self.assertEqual(possible_rules(plain("cabd"), [("b", 3), ("b", 1)]), [])

    def test_looks_of_a_whole_walk(self):
        drawer = Drawer((Card("a", see="c"), Card("b"), Card("c")))
        self.assertEqual(possible_rules(drawer, [("a", 4)]), ["all", "half", "leaf"])
        self.assertEqual(possible_rules(drawer, [("a", 4), ("b", 2)]), ["all", "leaf"])
        self.assertEqual(possible_rules(drawer, [("a", 1)]), [])

    def test_headings_that_are_not_found(self):
        self.assertEqual(possible_rules(plain("abc"), [("aa", 3)]), ["all"])
        self.assertEqual(possible_rules(plain("abc"), [("aa", 2)]), ["half", "leaf"])
        self.assertEqual(possible_rules(Drawer(()), [("a", 0)]), ["all", "half", "leaf"])

    def test_against_the_reference(self):
        for drawer in some_drawers(60, 8):
            for one, other in (("a", "b"), ("c", "x"), ("d", "d")):
                for rule in RULES:
                    counts = [(one, looks(drawer, rule, one)), (other, looks(drawer, rule, other))]
                    self.assertIn(rule, possible_rules(drawer, counts))
                    self.assertEqual(possible_rules(drawer, counts), reference.possible_rules(drawer, counts))

    def test_errors(self):
        for word in NO_WORDS:
            for index, counts in enumerate(([(word, 1)], [("a", 9), (word, 1)], [("a", 1), ("b", 1), (word, 1), ("", 1)])):
                with self.assertRaises(InvalidLog) as caught:
                    possible_rules(plain("ab"), counts)
                self.assertEqual(caught.exception.index, index)


if __name__ == "__main__":
    unittest.main()
