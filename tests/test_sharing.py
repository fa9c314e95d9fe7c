"""Several searchers: point 21."""

import unittest

from seerings.cards import Card
from seerings.drawers import Drawer
from seerings.errors import InvalidRows, InvalidRule
from seerings.sharing import best_turns, shared_fronts, shared_looks
from seerings.using import used

from tests import examples, reference
from tests.made import NO_RULES, NO_WORDS, RULES, Dice, plain, some_drawers

ALL = (shared_looks, shared_fronts, best_turns)


def some_rows(dice, most, letters="abcd"):
    """Return one to three rows of requests, at most so many each."""
    rows = []
    for _ in range(1 + dice.throw(3)):
        rows.append(tuple(letters[dice.throw(len(letters))] for _ in range(dice.throw(most + 1))))
    return tuple(rows)


class ExampleTest(unittest.TestCase):

    def test_examples(self):
        examples.run(self, """
>>> from seerings.cards import Card
>>> from seerings.drawers import Drawer
>>> from seerings.sharing import best_turns, shared_fronts, shared_looks
>>> drawer = Drawer((Card("tram", books=(1,)), Card("bus", also=("tram",)), Card("rail", see="tram")))
>>> rows = (("rail",), ("bus",))
>>> [shared_looks(drawer, "all", rows), shared_fronts(drawer, "all", rows), best_turns(drawer, "all", rows)]
[(5, 6), [1, 2], (1, 0)]
""")
        examples.run(self, """
>>> from seerings.drawers import Drawer
>>> from seerings.sharing import shared_looks
>>> shared_looks(Drawer(()), "all", ())
raises InvalidRows(index=0)
""")


class SharingTest(unittest.TestCase):

    def test_one_row(self):
        rows = (("c", "b", "c"),)
        self.assertEqual(shared_looks(plain("abc"), "all", rows), (8, 8))
        self.assertEqual(shared_fronts(plain("abc"), "all", rows), [2])
        self.assertEqual(best_turns(plain("abc"), "all", rows), (0, 0, 0))
        total = used(plain("abc"), "half", rows[0])[1]
        self.assertEqual(shared_looks(plain("abc"), "half", rows), (total, total))

    def test_two_rows(self):
        rows = (("a", "c"), ("c",))
        # The turns 0 0 1, 0 1 0 and 1 0 0 take 1 + 3 + 1, 1 + 3 + 1 and 3 + 2 + 2 looks.
        self.assertEqual(shared_looks(plain("abc"), "all", rows), (5, 7))
        self.assertEqual(shared_fronts(plain("abc"), "all", rows), [2])
        self.assertEqual(best_turns(plain("abc"), "all", rows), (0, 0, 1))

    def test_three_rows(self):
        rows = (("c",), ("b",), ("a",))
        told = reference.shared(plain("abc"), "all", rows)
        self.assertEqual(len(told), 6)
        self.assertEqual(shared_looks(plain("abc"), "all", rows), (6, 9))
        self.assertEqual(shared_fronts(plain("abc"), "all", rows), [0, 1, 2])
        self.assertEqual(best_turns(plain("abc"), "all", rows), (2, 1, 0))

    def test_each_row_is_made_in_order(self):
        rows = (("a", "b"), ())
        self.assertEqual(shared_fronts(plain("abc"), "all", rows), [1])
        self.assertEqual(best_turns(plain("abc"), "all", rows), (0, 0))

    def test_of_several_the_least_turns(self):
        self.assertEqual(best_turns(plain("ab"), "all", (("a",), ("a",), ("a",))), (0, 1, 2))
        self.assertEqual(best_turns(plain("ab"), "all", (("b", "a"), ("b", "a"))), (0, 1, 0, 1))
        self.assertEqual(best_turns(Drawer(()), "half", (("b", "a"), ("b", "a"))), (0, 0, 1, 1))
        self.assertEqual(best_turns(plain("ab"), "all", (("x",), ("y", "z"))), (0, 1, 1))

    def test_rows_with_no_requests(self):
        for rule in RULES:
            for rows in (((),), ((), ()), ((), (), ())):
                self.assertEqual(shared_looks(plain("ba"), rule, rows), (0, 0))
                self.assertEqual(shared_fronts(plain("ba"), rule, rows), [0])
                self.assertEqual(best_turns(plain("ba"), rule, rows), ())
        self.assertEqual(best_turns(plain("ba"), "all", ((), ("a",), ())), (1,))

    def test_an_empty_drawer(self):
        for rule in RULES:
            for rows in (((),), (("a",), ("b",)), (("a",) * 4,) * 3):
                self.assertEqual(shared_looks(Drawer(()), rule, rows), (0, 0))
                self.assertEqual(shared_fronts(Drawer(()), rule, rows), [])

    def test_fronts_are_places_at_first(self):
        self.assertEqual(shared_fronts(plain("aaaa"), "half", (("a",), ("x",))), [1])
        self.assertEqual(shared_fronts(plain("aaaa"), "half", (("a", "a"), ("x",))), [0])
        self.assertEqual(shared_fronts(plain("cab"), "all", (("a", "b"), ("c",))), [0, 2])

    def test_equal_cards_are_others(self):
        drawer = Drawer((Card("a", (1,)),) * 6)
        self.assertEqual(shared_fronts(drawer, "half", (("a",), ("a",), ("a",))), [0])
        self.assertEqual(shared_fronts(drawer, "half", (("a",), ("a",), ("x",))), [1])

    def test_three_rows_of_four(self):
        drawer = plain("fedcbaabcdefghij")
        rows = (("a", "b", "c", "d"), ("e", "f", "g", "h"), ("j", "a", "x", "i"))
        for rule in RULES:
            least, greatest = shared_looks(drawer, rule, rows)
            turns = best_turns(drawer, rule, rows)
            self.assertEqual(sorted(turns), [0] * 4 + [1] * 4 + [2] * 4)
            left = [list(row) for row in rows]
            later, total = used(drawer, rule, tuple(left[index].pop(0) for index in turns))
            self.assertEqual(total, least)
            self.assertLessEqual(least, greatest)
            self.assertIn(later[0], [drawer[place] for place in shared_fronts(drawer, rule, rows)])

    def test_against_the_reference(self):
        dice = Dice(11)
        for drawer in some_drawers(80, 7, "abc") + some_drawers(40, 12, "abc"):
            for rule in RULES:
                rows = some_rows(dice, 2)
                told = reference.shared(drawer, rule, rows)
                looks = [total for total, _ in told.values()]
                self.assertEqual(shared_looks(drawer, rule, rows), (min(looks), max(looks)))
                fronts = sorted({front for _, front in told.values() if front is not None})
                self.assertEqual(shared_fronts(drawer, rule, rows), fronts)
                best = min(turns for turns in told if told[turns][0] == min(looks))
                self.assertEqual(best_turns(drawer, rule, rows), best)

    def test_longer_rows_against_the_reference(self):
        dice = Dice(12)
        for drawer in some_drawers(30, 10, "abc"):
            rows = some_rows(dice, 4)[:2]
            told = reference.shared(drawer, "half", rows)
            looks = [total for total, _ in told.values()]
            self.assertEqual(shared_looks(drawer, "half", rows), (min(looks), max(looks)))
            best = min(turns for turns in told if told[turns][0] == min(looks))
            self.assertEqual(best_turns(drawer, "half", rows), best)

    def test_the_list_may_be_modified(self):
        rows = (("c",), ("b",))
        shared_fronts(plain("abc"), "all", rows).clear()
        self.assertEqual(shared_fronts(plain("abc"), "all", rows), [1, 2])


class ErrorsTest(unittest.TestCase):

    def index_of(self, call, rows):
        """Return the index with which rows are refused."""
        with self.assertRaises(InvalidRows) as caught:
            call(plain("ab"), "all", rows)
        return caught.exception.index

    def test_rules_come_first(self):
        for call in ALL:
            for rule in NO_RULES:
                for rows in ((), (("",),), (("a",),)):
                    with self.assertRaises(InvalidRule):
                        call(plain("ab"), rule, rows)

    def test_no_rows(self):
        for call in ALL:
            self.assertEqual(self.index_of(call, ()), 0)

    def test_requests_that_are_no_words(self):
        for call in ALL:
            for word in NO_WORDS:
                self.assertEqual(self.index_of(call, ((word,),)), 0)
                self.assertEqual(self.index_of(call, (("a", "b"), ("a", "b", "a", word))), 1)
                self.assertEqual(self.index_of(call, ((), ("a",), ("a", word, "b"), (word,))), 2)

    def test_four_and_five_requests(self):
        four, five = ("a",) * 4, ("a",) * 5
        for call in ALL:
            call(plain("ab"), "all", (four, four, four))
            self.assertEqual(self.index_of(call, (five,)), 0)
            self.assertEqual(self.index_of(call, (four, five, ("",))), 1)
            self.assertEqual(self.index_of(call, (four, four, five + ("",))), 2)

    def test_four_rows(self):
        for call in ALL:
            for last in ((), ("a",), ("",), ("a",) * 5):
                self.assertEqual(self.index_of(call, (("a",), ("b",), (), last)), 3)
                self.assertEqual(self.index_of(call, (("a",), ("b",), (), last, ("",))), 3)
            self.assertEqual(self.index_of(call, ((), (), ("",), ())), 2)


if __name__ == "__main__":
    unittest.main()
