"""Texts of drawers: point 27."""

import unittest

from seerings.cards import Card
from seerings.drawers import Drawer
from seerings.errors import InvalidCard, InvalidDrawer, InvalidText
from seerings.notation import format_drawer, parse_drawer

from tests import examples, reference
from tests.made import Dice, plain, some_drawers

FULL = Card("tram", (1, 9, 10, 99, 100, 999), "", ("bus", "rail", "abcdefgh", "z"))


class ExampleTest(unittest.TestCase):

    def test_examples(self):
        examples.run(self, """
>>> from seerings.cards import Card
>>> from seerings.drawers import Drawer
>>> from seerings.notation import format_drawer, parse_drawer
>>> drawer = Drawer((Card("tram", books=(1,)), Card("bus", also=("tram",)), Card("rail", see="tram")))
>>> [format_drawer(drawer), parse_drawer(format_drawer(drawer)) == drawer]
['card tram 1\\ncard bus also tram\\nsee rail tram', True]
""")
        examples.run(self, """
>>> from seerings.notation import parse_drawer
>>> parse_drawer("card bus 3 2")
raises InvalidText(row=0, word=3)
""")


class FormatTest(unittest.TestCase):

    def test_texts_and_back(self):
        rows = (
            ((), ""), ((Card("a"),), "card a"), ((Card("a", see="b"),), "see a b"), ((Card("a", (7,)),), "card a 7"),
            ((Card("a", (), "", ("c", "b")),), "card a also c b"), ((Card("a", (1, 999), "", ("b",)),), "card a 1 999 also b"),
            ((FULL,), "card tram 1 9 10 99 100 999 also bus rail abcdefgh z"),
            ((Card("b"), Card("a"), Card("b", see="a")), "card b\ncard a\nsee b a"),
        )
        for cards, text in rows:
            self.assertEqual(format_drawer(Drawer(cards)), text)
            self.assertEqual(parse_drawer(text), Drawer(cards))

    def test_headings_that_are_called_like_the_first_words(self):
        rows = (
            (Card("also"), "card also"), (Card("card"), "card card"), (Card("see"), "card see"),
            (Card("see", see="also"), "see see also"), (Card("also", see="see"), "see also see"),
            (Card("card", see="see"), "see card see"), (Card("also", (3,)), "card also 3"),
            (Card("also", (), "", ("see", "card")), "card also also see card"),
            (Card("bus", (), "", ("also",)), "card bus also also"),
            (Card("bus", (3,), "", ("card", "also", "see")), "card bus 3 also card also see"),
        )
        for card, text in rows:
            self.assertEqual(format_drawer(Drawer((card,))), text)
            self.assertEqual(parse_drawer(text), Drawer((card,)))

    def test_sixteen_cards(self):
        for drawer in (plain("a" * 16), Drawer((FULL,) * 16)):
            self.assertEqual(parse_drawer(format_drawer(drawer)), drawer)

    def test_some_drawers(self):
        for drawer in some_drawers(100, 16):
            self.assertEqual(parse_drawer(format_drawer(drawer)), drawer)
            self.assertIsNone(reference.wrong_word(format_drawer(drawer)))


class InvalidTextTest(unittest.TestCase):

    def check(self, text, row, word):
        with self.assertRaises(InvalidText) as caught:
            parse_drawer(text)
        self.assertEqual((caught.exception.row, caught.exception.word), (row, word), text)
        self.assertEqual(reference.wrong_word(text), (row, word), text)

    def test_another_first_word(self):
        for text in ("bus", "Card bus", "cards bus", "also bus", "3", "SEE a b", "s\u00e9e a b", "card\ta", "-"):
            self.check(text, 0, 0)

    def test_empty_rows(self):
        self.check("\n", 0, 0)
        self.check("card a\n", 1, 0)
        self.check("\ncard a", 0, 0)
        self.check("card a\n\ncard b", 1, 0)
        self.check(" ", 0, 0)

    def test_blanks(self):
        self.check(" card a", 0, 0)
        self.check("card a ", 0, 2)
        self.check("card a 3 ", 0, 3)
        self.check("card a also b ", 0, 4)
        self.check("card a also ", 0, 3)
        self.check("see a b ", 0, 3)
        self.check("see a ", 0, 2)
        self.check("card ", 0, 1)
        self.check("card  a", 0, 1)
        self.check("card a  3", 0, 2)
        self.check("card a 3  4", 0, 3)
        self.check("card a also  b", 0, 3)
        self.check("see  a b", 0, 1)
        self.check("see a  b", 0, 2)

    def test_other_blanks_and_line_ends(self):
        self.check("card a\t3", 0, 1)
        self.check("card a\r\ncard b", 0, 1)
        self.check("card a 3\r", 0, 2)
        self.check("see a b\x0b", 0, 2)
        self.check("see a\u00a0b", 0, 1)
        self.check("card a\u2028card b", 0, 1)

    def test_headings_that_are_no_words(self):
        for word in ("A", "abcdefghi", "a1", "7", "\u00e4", "a-b", "\uff41", "\u0131"):
            self.check("card " + word, 0, 1)
            self.check("card " + word + " x y", 0, 1)
            self.check("see " + word + " b", 0, 1)
            self.check("see b " + word, 0, 2)
            self.check("see b " + word + " c", 0, 2)
            self.check("card b also " + word, 0, 3)
            self.check("card b 3 also c " + word + " d", 0, 5)

    def test_books_that_are_no_such_numbers(self):
        words = (
            "0", "00", "000", "01", "007", "1000", "0999", "99999999999999999999", "+1", "-1", "1.0", "1_0", "x", "also1",
            "\u0663", "\u00b2", "\u00bd", "1\u0663", "\uff11", "\u2460", "Also", "see", "card",
        )
        for word in words:
            self.check("card a " + word, 0, 2)
            self.check("card a " + word + " also b", 0, 2)
            self.check("card a 1 " + word + " 0", 0, 3)

    def test_books_that_do_not_ascend(self):
        self.check("card a 3 3", 0, 3)
        self.check("card a 3 2 1", 0, 3)
        self.check("card a 9 10 9 also", 0, 4)
        self.check("card a 999 1000", 0, 3)
        self.check("card a 99 100 11", 0, 4)

    def test_books_behind_also(self):
        self.check("card a also 3", 0, 3)
        self.check("card a 3 also b 4", 0, 5)

    def test_also_without_a_heading(self):
        self.check("card a also", 0, 3)
        self.check("card a 3 4 also", 0, 5)
        self.check("card also also", 0, 3)
        self.check("card a also\ncard b", 0, 3)

    def test_missing_words(self):
        self.check("card", 0, 1)
        self.check("see", 0, 1)
        self.check("see a", 0, 2)
        self.check("card a\nsee a", 1, 2)

    def test_superfluous_words(self):
        self.check("see a b c", 0, 3)
        self.check("see a b 3", 0, 3)
        self.check("see a b also c", 0, 3)
        self.check("see also b also", 0, 3)

    def test_the_first_row_and_word(self):
        self.check("card a\nsee a\ncard A\nx", 1, 2)
        self.check("card a 0 0\nx", 0, 2)
        self.check("card A 0 also", 0, 1)

    def test_ahead_of_every_card_that_cannot_be(self):
        self.check("see a a\ncard a 1 2 3 4 5 6 7\nsee b", 2, 2)
        self.check("card a also a\nx", 1, 0)
        self.check("\n".join(["card a"] * 17 + ["card a 0"]), 17, 2)

    def test_texts_that_were_changed(self):
        dice = Dice(19)
        wrong = 0
        for drawer in some_drawers(120, 4, ("a", "b", "also", "see", "card")):
            text = format_drawer(drawer)
            for _ in range(30):
                place = dice.throw(len(text) + 1)
                sign = ("", " ", "\n", "0", "1", "a", "A", " also", " 12")[dice.throw(9)]
                changed = text[:place] + sign + text[place + dice.throw(3):]
                found = reference.wrong_word(changed)
                try:
                    parsed = parse_drawer(changed)
                except InvalidText as error:
                    wrong += 1
                    self.assertEqual((error.row, error.word), found, changed)
                except (InvalidCard, InvalidDrawer):
                    self.assertIsNone(found, changed)
                else:
                    self.assertIsNone(found, changed)
                    self.assertEqual(format_drawer(parsed), changed)
        self.assertGreater(wrong, 1000)


class CardsThatCannotBeTest(unittest.TestCase):

    def check(self, text, part):
        with self.assertRaises(InvalidCard) as caught:
            parse_drawer(text)
        self.assertEqual(caught.exception.part, part, text)

    def test_each_kind(self):
        self.check("see a a", "see")
        self.check("card a 1 2 3 4 5 6 7", "books")
        self.check("card a also b c d e f", "also")
        self.check("card a also b b", "also")
        self.check("card a also b c b", "also")
        self.check("card a also a", "also")
        self.check("card also also also", "also")

    def test_the_first_row(self):
        self.check("card a\nsee b b\ncard a 1 2 3 4 5 6 7", "see")
        self.check("card a 1 2 3 4 5 6 7 also a\nsee b b", "books")
        self.check("card a also a\nsee b b", "also")

    def test_cards_come_ahead_of_drawers(self):
        self.check("\n".join(["card a"] * 20 + ["see a a"]), "see")

    def test_a_seventeenth_row(self):
        for row in ("card a", "see a b", "card a 3 also b"):
            self.assertEqual(len(parse_drawer("\n".join([row] * 16))), 16)
            for many in (17, 18, 40):
                with self.assertRaises(InvalidDrawer):
                    parse_drawer("\n".join([row] * many))


if __name__ == "__main__":
    unittest.main()
