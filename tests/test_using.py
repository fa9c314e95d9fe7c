"""In front after use: points 19 and 20."""

import unittest

from seerings.cards import Card
from seerings.drawers import Drawer, filed
from seerings.errors import InvalidNumber, InvalidRequests, InvalidRule, UnknownPlace
from seerings.using import best_order, cost, first_in_front, used, used_far, worth_filing

from tests import examples, reference
from tests.made import NO_RULES, NO_WORDS, RULES, Dice, plain, some_drawers

MOST = 10 ** 18
# By halves, these requests bring the cards back to an order that they had before only after many rounds.
LONG = (plain("faebeaeffefdcbag"), tuple("fdcbae"))


def some_requests(dice, most, letters="abcde"):
    """Return requests, at most so many, of these headings."""
    return tuple(letters[dice.throw(len(letters))] for _ in range(dice.throw(most + 1)))


def numbered(text):
    """Return a drawer of cards with these one-letter headings, and their places, from 1, as books."""
    return Drawer(tuple(Card(letter, (place + 1,)) for place, letter in enumerate(text)))


def places_of(drawer):
    """Return the places that the cards of a numbered drawer had at first."""
    return tuple(card.books[0] - 1 for card in drawer.cards)


class ExampleTest(unittest.TestCase):

    def test_examples(self):
        examples.run(self, """
>>> from seerings.cards import Card
>>> from seerings.drawers import Drawer
>>> from seerings.using import best_order, first_in_front, used, used_far, worth_filing
>>> drawer = Drawer((Card("tram", books=(1,)), Card("bus", also=("tram",)), Card("rail", see="tram")))
>>> told = [used(drawer, "all", ("rail", "rail"))[1], used_far(drawer, "all", ("rail", "bus"), 10 ** 18)[1]]
>>> told.append(first_in_front(drawer, "all", ("rail", "bus"), 1))
>>> told + [best_order(drawer, ("bus", "rail", "bus")), worth_filing(drawer, "all", ("bus",))]
[4, 4000000000000000002, (0, 1), (4, (1, 2, 0)), 'yes']
""")
        examples.run(self, """
>>> from seerings.drawers import Drawer
>>> from seerings.using import cost
>>> cost(Drawer(()), "all", ("bus", "B"))
raises InvalidRequests(index=1)
""")


class UsedTest(unittest.TestCase):

    def test_no_requests(self):
        for rule in RULES:
            self.assertEqual(used(plain("bca"), rule, ()), (plain("bca"), 0))
            self.assertEqual(used(Drawer(()), rule, ()), (Drawer(()), 0))

    def test_a_card_that_is_found_is_put_in_front(self):
        self.assertEqual(used(plain("abc"), "all", ("c",)), (plain("cab"), 3))
        self.assertEqual(used(plain("abc"), "all", ("a",)), (plain("abc"), 1))
        self.assertEqual(used(plain("abc"), "leaf", ("c", "b")), (plain("cab"), 4))
        self.assertEqual(used(plain("abc"), "half", ("c", "b")), (plain("bca"), 4))

    def test_requests_are_made_one_after_another(self):
        self.assertEqual(used(plain("abc"), "all", ("c", "b", "c")), (plain("cba"), 3 + 3 + 2))
        self.assertEqual(used(plain("abcd"), "all", ("d", "d", "a")), (plain("adbc"), 4 + 1 + 2))

    def test_requests_that_find_nothing(self):
        self.assertEqual(used(plain("abc"), "all", ("x", "x")), (plain("abc"), 6))
        self.assertEqual(used(plain("bca"), "leaf", ("a", "aa")), (plain("bca"), 2))
        self.assertEqual(used(plain("bca"), "half", ("a",)), (plain("bca"), 2))
        self.assertEqual(used(Drawer(()), "all", ("a", "b")), (Drawer(()), 0))

    def test_only_the_card_that_is_found_is_put_in_front(self):
        self.assertEqual(places_of(used(numbered("bab"), "all", ("b",))[0]), (0, 1, 2))
        self.assertEqual(places_of(used(numbered("aaa"), "half", ("a",))[0]), (1, 0, 2))
        self.assertEqual(places_of(used(numbered("aaa"), "half", ("a", "a"))[0]), (0, 1, 2))
        drawer = Drawer((Card("b", see="c"), Card("a", see="b"), Card("c", (4,))))
        self.assertEqual(used(drawer, "all", ("a",)), (drawer.moved(1, 0), 2))

    def test_twelve_and_thirteen_requests(self):
        self.assertEqual(used(plain("ab"), "all", ("b", "a") * 6), (plain("ab"), 24))
        for requests in (("a",) * 13, ("a",) * 14, ("a",) * 12 + ("",), ("a",) * 13 + ("",)):
            with self.assertRaises(InvalidRequests) as caught:
                used(plain("ab"), "all", requests)
            self.assertEqual(caught.exception.index, 12)

    def test_against_the_reference(self):
        dice = Dice(5)
        for drawer in some_drawers(150, 10):
            for rule in RULES:
                requests = some_requests(dice, 12)
                order, total, _ = reference.used(drawer, rule, requests)
                cards = tuple(drawer[place] for place in order)
                self.assertEqual(used(drawer, rule, requests), (Drawer(cards), total))


class UsedFarTest(unittest.TestCase):

    def test_no_round_and_one(self):
        for drawer in [Drawer(()), plain("cabd"), *some_drawers(30, 8)]:
            for rule in RULES:
                for requests in ((), ("a",), ("b", "x", "d"), tuple("abcdefgabcde")):
                    self.assertEqual(used_far(drawer, rule, requests, 0), (drawer, 0))
                    self.assertEqual(used_far(drawer, rule, requests, 1), used(drawer, rule, requests))

    def test_some_rounds(self):
        dice = Dice(6)
        for drawer in some_drawers(60, 16, "abc") + [LONG[0]]:
            for rule in RULES:
                requests = some_requests(dice, 12, "abcd")
                for count in (2, 3, 5, 20, 60):
                    later, total = drawer, 0
                    for _ in range(count):
                        later, more = used(later, rule, requests)
                        total += more
                    self.assertEqual(used_far(drawer, rule, requests, count), (later, total))

    def test_many_rounds(self):
        self.assertEqual(used_far(plain("ab"), "all", ("b",), MOST), (plain("ba"), MOST + 1))
        self.assertEqual(used_far(plain("ab"), "all", ("b", "a"), MOST), (plain("ab"), 4 * MOST))
        self.assertEqual(used_far(plain("ab"), "all", (), MOST), (plain("ab"), 0))
        self.assertEqual(used_far(Drawer(()), "half", ("a",), MOST), (Drawer(()), 0))
        self.assertEqual(used_far(plain("ab"), "leaf", ("x", "x"), MOST), (plain("ab"), 4 * MOST))

    def test_cards_that_go_round(self):
        for count in range(12):
            # The middle one of three is put in front each time, so they go round in two.
            order = (1, 0, 2) if count % 2 else (0, 1, 2)
            later, total = used_far(numbered("aaa"), "half", ("a",), count)
            self.assertEqual((places_of(later), total), (order, count))
        later, total = used_far(numbered("aaaaa"), "half", ("a",), MOST)
        self.assertEqual((places_of(later), total), ((2, 0, 1, 3, 4), MOST))
        self.assertEqual(MOST % 3, 1)

    def test_rounds_behind_rounds(self):
        drawer, requests = LONG
        drawer = numbered([card.heading for card in drawer.cards])
        for first, more in ((0, MOST), (1, MOST - 1), (40, MOST - 40), (MOST - 7, 7), (MOST // 3, MOST // 2), (300, 77)):
            middle, total = used_far(drawer, "half", requests, first)
            later, further = used_far(middle, "half", requests, more)
            self.assertEqual(used_far(drawer, "half", requests, first + more), (later, total + further))

    def test_wrong_counts(self):
        for count in (-1, MOST + 1, 10 ** 30, True, False):
            with self.assertRaises(InvalidNumber):
                used_far(plain("ab"), "all", ("a",), count)
            with self.assertRaises(InvalidNumber):
                used_far(Drawer(()), "all", (), count)


class FirstInFrontTest(unittest.TestCase):

    def test_the_card_in_front_at_first(self):
        for rule in RULES:
            for requests in ((), ("a",), ("c", "x")):
                self.assertEqual(first_in_front(plain("abc"), rule, requests, 0), (0, -1))

    def test_in_the_first_round(self):
        self.assertEqual(first_in_front(plain("abc"), "all", ("c", "b"), 2), (0, 0))
        self.assertEqual(first_in_front(plain("abc"), "all", ("c", "b"), 1), (0, 1))
        self.assertEqual(first_in_front(plain("abc"), "all", ("x", "a", "b", "b"), 1), (0, 2))

    def test_in_a_later_round(self):
        self.assertEqual(first_in_front(plain("aaaa"), "half", ("a",), 1), (0, 0))
        self.assertEqual(first_in_front(plain("aaaaaa"), "half", ("a",), 1), (1, 0))
        self.assertEqual(first_in_front(plain("aaaaaa"), "half", ("x", "a"), 1), (1, 1))
        self.assertEqual(first_in_front(plain("a" * 16), "half", ("a",), 1), (6, 0))

    def test_never(self):
        self.assertIsNone(first_in_front(plain("abc"), "all", ("c",), 1))
        self.assertIsNone(first_in_front(plain("aba"), "all", ("a", "b"), 2))
        self.assertIsNone(first_in_front(plain("abc"), "all", (), 1))
        self.assertIsNone(first_in_front(plain("aaa"), "half", ("a",), 2))
        self.assertIsNone(first_in_front(plain("cba"), "leaf", ("a", "b"), 2))

    def test_against_the_reference(self):
        dice = Dice(7)
        later = 0
        for drawer in some_drawers(80, 16, "abc") + some_drawers(60, 8):
            for rule in RULES:
                requests = some_requests(dice, 12, "abcd") + ("a",) * (drawer == Drawer(()))
                for place in range(len(drawer)):
                    told = first_in_front(drawer, rule, requests[:12], place)
                    self.assertEqual(told, reference.first_in_front(drawer, rule, requests[:12], place, 60))
                    later += told is not None and told[0] > 0
        self.assertGreater(later, 20)

    def test_a_whole_drawer_that_takes_long(self):
        drawer, requests = LONG
        for place in range(16):
            told = first_in_front(drawer, "half", requests, place)
            self.assertEqual(told, reference.first_in_front(drawer, "half", requests, place, 500))

    def test_unknown_places(self):
        for place in (3, -1, 16, True, False):
            with self.assertRaises(UnknownPlace):
                first_in_front(plain("abc"), "all", ("a",), place)
        with self.assertRaises(UnknownPlace):
            first_in_front(Drawer(()), "all", (), 0)


class CostTest(unittest.TestCase):

    def test_no_card_is_put_in_front(self):
        self.assertEqual(cost(plain("abc"), "all", ("c", "c", "b")), 3 + 3 + 2)
        self.assertEqual(cost(plain("abc"), "half", ("c", "c", "b")), 2 + 2 + 1)
        self.assertEqual(cost(plain("bac"), "leaf", ("a", "c", "b")), 1 + 3 + 1)

    def test_requests_that_find_nothing_and_none(self):
        self.assertEqual(cost(plain("abc"), "all", ("x", "aa")), 6)
        self.assertEqual(cost(plain("abc"), "leaf", ("x", "aa")), 5)
        for rule in RULES:
            self.assertEqual(cost(plain("abc"), rule, ()), 0)
            self.assertEqual(cost(Drawer(()), rule, ("a", "b")), 0)

    def test_only_one_look_up_counts(self):
        self.assertEqual(cost(Drawer((Card("a", see="c"), Card("b"), Card("c"))), "all", ("a",)), 1)

    def test_against_the_reference(self):
        dice = Dice(8)
        for drawer in some_drawers(100, 10):
            for rule in RULES:
                requests = some_requests(dice, 12)
                row = [card.heading for card in drawer.cards]
                self.assertEqual(cost(drawer, rule, requests), reference.cost(row, rule, requests))


class BestOrderTest(unittest.TestCase):

    def test_no_requests(self):
        self.assertEqual(best_order(plain("cab"), ()), (0, (0, 1, 2)))
        self.assertEqual(best_order(Drawer(()), ()), (0, ()))

    def test_those_of_the_most_requests_lie_ahead(self):
        self.assertEqual(best_order(plain("abc"), ("c", "b", "c")), (1 + 1 + 2, (2, 1, 0)))
        self.assertEqual(best_order(plain("abcd"), tuple("bdcdcd")), (3 + 4 + 3, (3, 2, 1, 0)))

    def test_of_several_the_least(self):
        self.assertEqual(best_order(plain("abc"), ("c", "b")), (3, (1, 2, 0)))
        self.assertEqual(best_order(plain("abc"), ("b", "c")), (3, (1, 2, 0)))
        self.assertEqual(best_order(plain("cba"), ("a", "c", "b")), (6, (0, 1, 2)))

    def test_requests_that_are_not_there(self):
        self.assertEqual(best_order(plain("abc"), ("x", "y", "x")), (9, (0, 1, 2)))
        self.assertEqual(best_order(plain("abc"), ("x", "c")), (3 + 1, (2, 0, 1)))
        self.assertEqual(best_order(Drawer(()), ("a", "b")), (0, ()))

    def test_cards_of_one_heading(self):
        self.assertEqual(best_order(plain("aabb"), ("b",)), (1, (2, 0, 1, 3)))
        self.assertEqual(best_order(plain("aabb"), ("a", "b")), (3, (0, 2, 1, 3)))
        self.assertEqual(best_order(plain("aabb"), ("a", "b", "b")), (1 + 1 + 2, (2, 0, 1, 3)))
        self.assertEqual(best_order(plain("aaaa"), ("a", "a")), (2, (0, 1, 2, 3)))

    def test_sixteen_cards(self):
        drawer = plain("abcdefghijklmnop")
        told = best_order(drawer, tuple("ponmlkjihgfe"))
        self.assertEqual(told, (78, (*range(4, 16), 0, 1, 2, 3)))
        told = best_order(drawer, tuple("pppoonxppppp"))
        self.assertEqual(told, (8 + 4 + 3 + 16, (15, 14, 13, *range(13))))

    def test_against_the_reference(self):
        dice = Dice(9)
        for drawer in some_drawers(100, 5, "abcd") + some_drawers(8, 6, "ab"):
            requests = some_requests(dice, 6)
            self.assertEqual(best_order(drawer, requests), reference.best_order(drawer, requests))


class WorthFilingTest(unittest.TestCase):

    def test_yes(self):
        self.assertEqual(worth_filing(plain("cba"), "all", ("a",)), "yes")
        self.assertEqual(worth_filing(plain("cba"), "all", ("a", "a", "c")), "yes")

    def test_no(self):
        self.assertEqual(worth_filing(plain("cba"), "all", ("c",)), "no")
        self.assertEqual(worth_filing(plain("cba"), "all", ("b",)), "no")
        self.assertEqual(worth_filing(plain("cba"), "all", ("a", "c")), "no")
        for rule in RULES:
            self.assertEqual(worth_filing(plain("abc"), rule, ("a", "b", "c")), "no")
            self.assertEqual(worth_filing(plain("cba"), rule, ()), "no")
            self.assertEqual(worth_filing(Drawer(()), rule, ("a",)), "no")

    def test_requests_that_find_nothing_neither_way(self):
        self.assertEqual(worth_filing(plain("cba"), "all", ("x",)), "no")
        self.assertEqual(worth_filing(plain("abc"), "leaf", ("aa",)), "no")
        self.assertEqual(worth_filing(plain("acb"), "leaf", ("d", "aa")), "no")

    def test_lost(self):
        drawer = Drawer((Card("b", (1,)), Card("b", (2,)), Card("a")))
        self.assertEqual(worth_filing(drawer, "all", ("b",)), "no")
        self.assertEqual(worth_filing(drawer, "half", ("b",)), "lost")
        self.assertEqual(worth_filing(drawer, "half", ("a", "b")), "lost")

    def test_what_is_found_only_in_the_filed_drawer_is_not_equal(self):
        self.assertEqual(worth_filing(plain("cba"), "leaf", ("a",)), "lost")
        self.assertEqual(worth_filing(plain("cba"), "leaf", ("c", "a")), "lost")

    def test_equal_cards_at_other_places(self):
        drawer = Drawer((Card("b", (1,)), Card("b", (1,)), Card("b", (1,)), Card("a")))
        self.assertEqual(worth_filing(drawer, "half", ("b",)), "no")

    def test_against_the_reference(self):
        dice = Dice(10)
        words = set()
        for drawer in some_drawers(300, 8, "abcd"):
            for rule in RULES:
                requests = some_requests(dice, 4)
                looks, cards = [], []
                for each in (filed(drawer), drawer):
                    row = [card.heading for card in each.cards]
                    found = [reference.look_up(row, rule, heading) for heading in requests]
                    looks.append(sum(len(seen) for _, seen in found))
                    cards.append([place if place is None else each[place] for place, _ in found])
                word = "lost" if cards[0] != cards[1] else "yes" if looks[0] < looks[1] else "no"
                self.assertEqual(worth_filing(drawer, rule, requests), word)
                words.add(word)
        self.assertEqual(words, {"yes", "no", "lost"})


class ErrorsTest(unittest.TestCase):

    def test_rules_come_first(self):
        wrong = ("",) * 13
        calls = (
            lambda rule: used(plain("a"), rule, wrong), lambda rule: used_far(plain("a"), rule, wrong, -1),
            lambda rule: first_in_front(plain("a"), rule, wrong, 9), lambda rule: cost(plain("a"), rule, wrong),
            lambda rule: worth_filing(plain("a"), rule, wrong),
        )
        for call in calls:
            for rule in NO_RULES:
                with self.assertRaises(InvalidRule):
                    call(rule)

    def test_requests_come_next(self):
        calls = (
            lambda requests: used(plain("a"), "all", requests),
            lambda requests: used_far(plain("a"), "all", requests, -1),
            lambda requests: first_in_front(plain("a"), "all", requests, 9),
            lambda requests: cost(plain("a"), "all", requests),
            lambda requests: worth_filing(plain("a"), "all", requests),
            lambda requests: best_order(plain("a"), requests),
        )
        for call in calls:
            for word in NO_WORDS:
                for index in (0, 1, 7, 11, 12):
                    for behind in ((), ("a", ""), ("a",) * 9):
                        with self.assertRaises(InvalidRequests) as caught:
                            call(("a",) * index + (word,) + behind)
                        self.assertEqual(caught.exception.index, index)
            for many in (13, 14, 40):
                with self.assertRaises(InvalidRequests) as caught:
                    call(("a",) * many)
                self.assertEqual(caught.exception.index, 12)


if __name__ == "__main__":
    unittest.main()
