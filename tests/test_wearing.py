"""Wear: point 22."""

import unittest

from seerings.cards import Card
from seerings.drawers import Drawer
from seerings.errors import InvalidNumber, InvalidRequests, InvalidRule
from seerings.wearing import first_fallen, served

from tests import examples, reference
from tests.made import NO_RULES, NO_WORDS, RULES, Dice, plain, plain_drawers, some_drawers

MOST = 10 ** 18
BOTH = (served, first_fallen)


class ExampleTest(unittest.TestCase):

    def test_examples(self):
        examples.run(self, """
>>> from seerings.cards import Card
>>> from seerings.drawers import Drawer
>>> from seerings.wearing import first_fallen, served
>>> drawer = Drawer((Card("tram", books=(1,)), Card("bus", also=("tram",)), Card("rail", see="tram")))
>>> [served(drawer, "all", ("rail",), 10 ** 18), first_fallen(drawer, "all", ("rail", "tram"), 3)]
[1000000000000000000, (3, [0])]
""")
        examples.run(self, """
>>> from seerings.drawers import Drawer
>>> from seerings.wearing import served
>>> served(Drawer(()), "all", (), 0)
raises InvalidNumber()
""")


class ServedTest(unittest.TestCase):

    def test_no_requests(self):
        for rule in RULES:
            for drawer in (Drawer(()), plain("a"), plain("cab")):
                for strength in (1, 2, MOST):
                    self.assertIsNone(served(drawer, rule, (), strength))

    def test_a_request_that_finds_nothing_from_the_first_on(self):
        for rule in RULES:
            for strength in (1, 2, MOST):
                self.assertEqual(served(plain("abc"), rule, ("x",), strength), 0)
                self.assertEqual(served(plain("abc"), rule, ("x", "a"), strength), 0)
                self.assertEqual(served(Drawer(()), rule, ("a",), strength), 0)

    def test_a_later_request_that_finds_nothing(self):
        for rule in RULES:
            self.assertEqual(served(plain("abc"), rule, ("b", "x"), MOST), 1)
            self.assertEqual(served(plain("abc"), rule, ("b", "b", "b", "x"), MOST), 3)
        self.assertEqual(served(plain("abc"), "all", ("b", "b", "b", "x"), 2), 2)

    def test_one_card(self):
        for rule in RULES:
            for strength in (1, 2, 7, MOST - 1, MOST):
                self.assertEqual(served(plain("a"), rule, ("a",), strength), strength)
                self.assertEqual(served(plain("a"), rule, ("a",) * 5, strength), strength)

    def test_a_card_still_serves_the_look_by_which_it_falls_out(self):
        self.assertEqual(served(plain("abc"), "all", ("c",), 1), 1)
        self.assertEqual(served(plain("abc"), "half", ("c", "a"), 1), 2)
        self.assertEqual(served(plain("abc"), "half", ("b", "a", "c"), 1), 3)
        self.assertEqual(served(plain("abc"), "half", ("c", "b", "a"), 1), 1)

    def test_cards_wear_while_others_are_looked_up(self):
        # The first card is looked at twice in a round.
        self.assertEqual(served(plain("ab"), "all", ("a", "b"), MOST), MOST)
        self.assertEqual(served(plain("ab"), "all", ("a", "b"), MOST - 1), MOST)
        self.assertEqual(served(plain("ab"), "all", ("b", "a"), MOST), MOST + 1)
        self.assertEqual(served(plain("ab"), "all", ("b", "a"), MOST - 1), MOST - 1)

    def test_another_card_of_the_same_heading(self):
        for rule in RULES:
            for strength in (1, 2, 3, MOST):
                self.assertEqual(served(plain("aaa"), rule, ("a",), strength), 3 * strength)
                self.assertEqual(served(plain("a" * 16), rule, ("a", "a"), strength), 16 * strength)
        drawer = Drawer((Card("b", (1,)), Card("a"), Card("b", (2,))))
        # The card between them is looked at only once the first one fell out, and falls out with the last one.
        self.assertEqual(served(drawer, "all", ("b",), 3), 6)
        self.assertEqual(served(drawer, "all", ("b",), MOST), 2 * MOST)

    def test_a_card_that_is_found_only_once_another_fell_out(self):
        # The greater heading ahead ends the search by leaf, until its card falls out.
        self.assertEqual(served(plain("ca"), "leaf", ("a",), 2), 0)
        self.assertEqual(served(plain("ca"), "leaf", ("c", "c", "a"), 2), 3)
        self.assertEqual(served(plain("ca"), "leaf", ("c", "c", "a"), 3), 2)
        self.assertEqual(served(plain("cca"), "leaf", ("c", "c", "a"), 1), 3)

    def test_no_card_is_put_in_front(self):
        # The first card falls out behind four requests; then the last one is found once more.
        self.assertEqual(served(plain("abc"), "all", ("c", "a"), 4), 5)
        self.assertEqual(first_fallen(plain("abc"), "all", ("c", "c", "a"), 4), (4, [0]))

    def test_small_strengths_against_the_reference(self):
        dice = Dice(13)
        for drawer in some_drawers(120, 9, "abcd"):
            for rule in RULES:
                requests = tuple("abcde"[dice.throw(5)] for _ in range(dice.throw(6)))
                for strength in (1, 2, 3, 4 + dice.throw(9)):
                    told = served(drawer, rule, requests, strength)
                    self.assertEqual(told, reference.served(drawer, rule, requests, strength))

    def test_all_small_drawers_against_the_reference(self):
        for drawer in plain_drawers("abc", 4):
            for rule in RULES:
                for requests in (("a",), ("b", "a"), ("c", "a", "c"), ("a", "b", "b", "c")):
                    for strength in (1, 2, 5):
                        told = served(drawer, rule, requests, strength)
                        self.assertEqual(told, reference.served(drawer, rule, requests, strength))

    def test_requests_that_are_found_for_long(self):
        dice = Dice(14)
        for drawer in some_drawers(60, 16, "abc"):
            headings = drawer.headings or ("a",)
            for rule in RULES:
                requests = tuple(headings[dice.throw(len(headings))] for _ in range(1 + dice.throw(12)))
                strength = 20 + dice.throw(60)
                told = served(drawer, rule, requests, strength)
                self.assertEqual(told, reference.served(drawer, rule, requests, strength))


class FirstFallenTest(unittest.TestCase):

    def test_none_ever_falls(self):
        for rule in RULES:
            for strength in (1, 2, MOST):
                self.assertIsNone(first_fallen(Drawer(()), rule, (), strength))
                self.assertIsNone(first_fallen(plain("abc"), rule, (), strength))
                self.assertIsNone(first_fallen(Drawer(()), rule, ("a", "b"), strength))

    def test_one_card(self):
        for rule in RULES:
            for strength in (1, 2, 7, MOST - 1, MOST):
                self.assertEqual(first_fallen(plain("a"), rule, ("a",), strength), (strength, [0]))
                self.assertEqual(first_fallen(plain("a"), rule, ("a", "x", "a"), strength), (strength, [0]))

    def test_several_cards_fall_behind_one_request(self):
        for strength in (1, 2, MOST):
            self.assertEqual(first_fallen(plain("abc"), "all", ("c",), strength), (strength, [0, 1, 2]))
            self.assertEqual(first_fallen(plain("abc"), "all", ("b",), strength), (strength, [0, 1]))
            self.assertEqual(first_fallen(plain("abcde"), "half", ("d",), strength), (strength, [2, 3]))
        self.assertEqual(first_fallen(plain("abcde"), "half", ("b",), 4), (4, [0, 1, 2]))

    def test_a_card_that_never_falls_although_others_do(self):
        self.assertEqual(first_fallen(plain("abc"), "half", ("b",), MOST), (MOST, [1]))
        self.assertEqual(first_fallen(plain("abc"), "leaf", ("aa",), MOST), (MOST, [0, 1]))

    def test_requests_that_find_nothing_wear_cards(self):
        self.assertEqual(first_fallen(plain("abc"), "all", ("x",), 5), (5, [0, 1, 2]))
        self.assertEqual(first_fallen(plain("bca"), "leaf", ("a",), MOST), (MOST, [0]))
        self.assertEqual(first_fallen(plain("abc"), "half", ("x", "a"), MOST), (MOST, [1]))

    def test_requests_are_made_round_after_round(self):
        self.assertEqual(first_fallen(plain("ab"), "all", ("a", "b"), 1), (1, [0]))
        self.assertEqual(first_fallen(plain("abc"), "half", ("a", "c", "a"), 4), (4, [1]))
        # In each round the first card is looked at four times, the second one three times.
        requests = ("b", "a", "b", "b")
        self.assertEqual(first_fallen(plain("ab"), "all", requests, 4 * 10 ** 17), (4 * 10 ** 17, [0]))
        drawer = Drawer((Card("b"), Card("a"), Card("c")))
        self.assertEqual(first_fallen(drawer, "half", ("a", "x", "b"), 7), (7, [1]))

    def test_places_in_the_middle_of_a_round(self):
        # By halves, the middle card serves each request, the others one in five and two in five.
        self.assertEqual(first_fallen(plain("abc"), "half", ("a", "c", "b", "c", "b"), MOST), (MOST, [1]))
        # Of the looks in a round, the first card has one less than the requests have.
        self.assertEqual(first_fallen(plain("aab"), "leaf", ("a", "b"), 9), (9, [0]))
        self.assertEqual(first_fallen(plain("ab"), "leaf", ("a", "b", "a"), 10), (10, [0]))

    def test_small_strengths_against_the_reference(self):
        dice = Dice(15)
        for drawer in some_drawers(120, 9, "abcd"):
            for rule in RULES:
                requests = tuple("abcde"[dice.throw(5)] for _ in range(dice.throw(6)))
                for strength in (1, 2, 3, 4 + dice.throw(30)):
                    told = first_fallen(drawer, rule, requests, strength)
                    self.assertEqual(told, reference.first_fallen(drawer, rule, requests, strength))

    def test_the_list_may_be_modified(self):
        first_fallen(plain("ab"), "all", ("b",), 1)[1].clear()
        self.assertEqual(first_fallen(plain("ab"), "all", ("b",), 1), (1, [0, 1]))


class LongTest(unittest.TestCase):

    def test_two_rounds_are_one_of_twice_the_requests(self):
        dice = Dice(16)
        for drawer in some_drawers(60, 16, "abcd"):
            letters = "".join(drawer.headings) + "x" * (dice.throw(3) == 0) or "a"
            for rule in RULES:
                requests = tuple(letters[dice.throw(len(letters))] for _ in range(1 + dice.throw(4)))
                for strength in (MOST, MOST - 1, MOST // 7, 10 ** 6 + 3):
                    for call in BOTH:
                        told = call(drawer, rule, requests, strength)
                        self.assertEqual(call(drawer, rule, requests * 2, strength), told)
                        self.assertEqual(call(drawer, rule, requests * 3, strength), told)


class ErrorsTest(unittest.TestCase):

    def test_rules_come_first(self):
        for call in BOTH:
            for rule in NO_RULES:
                with self.assertRaises(InvalidRule):
                    call(plain("a"), rule, ("",) * 13, 0)
                with self.assertRaises(InvalidRule):
                    call(Drawer(()), rule, (), 1)

    def test_requests_come_next(self):
        for call in BOTH:
            for word in NO_WORDS:
                for index in (0, 1, 11, 12):
                    with self.assertRaises(InvalidRequests) as caught:
                        call(plain("a"), "all", ("a",) * index + (word, "a", ""), 0)
                    self.assertEqual(caught.exception.index, index)
            with self.assertRaises(InvalidRequests) as caught:
                call(plain("a"), "all", ("a",) * 13, 1)
            self.assertEqual(caught.exception.index, 12)
            call(plain("a"), "all", ("a",) * 12, 1)

    def test_numbers_that_cannot_be(self):
        for call in BOTH:
            for strength in (0, -1, MOST + 1, 10 ** 30, True, False):
                for requests in ((), ("a",)):
                    with self.assertRaises(InvalidNumber):
                        call(plain("a"), "all", requests, strength)


if __name__ == "__main__":
    unittest.main()
