"""Codes of drawers: point 28."""

import unittest

from seerings.cards import Card
from seerings.codec import decode_drawer, encode_drawer
from seerings.drawers import Drawer
from seerings.errors import DecodeError, InvalidCard

from tests import examples
from tests.made import Dice, plain, some_drawers

NO_INTEGERS = (True, False, None, "1", 1.0, (1,), [1], b"a")


def with_checksum(*codes):
    """Return a code that ends with its checksum."""
    checksum = 7
    for code in codes:
        checksum = (15 * checksum + code) % 233
    return [*codes, checksum]


class ExampleTest(unittest.TestCase):

    def test_examples(self):
        examples.run(self, """
>>> from seerings.cards import Card
>>> from seerings.drawers import Drawer
>>> from seerings.codec import decode_drawer, encode_drawer
>>> values = encode_drawer(Drawer((Card("a", books=(300,)),)))
>>> [values, decode_drawer(values)[0].books]
[[97, 1, 1, 1, 2, 1, 44, 0, 179], (300,)]
""")
        examples.run(self, """
>>> from seerings.codec import decode_drawer
>>> decode_drawer([97, 17])
raises DecodeError(offset=1)
""")


class EncodeTest(unittest.TestCase):

    def check(self, cards, *codes):
        self.assertEqual(encode_drawer(Drawer(cards)), with_checksum(*codes))
        self.assertEqual(decode_drawer(with_checksum(*codes)), Drawer(cards))

    def test_no_cards(self):
        self.check((), 97, 0)
        # (15 * 7 + 97) modulo 233 is 202, and 15 * 202 modulo 233 is 1.
        self.assertEqual(encode_drawer(Drawer(())), [97, 0, 1])

    def test_see_cards(self):
        self.check((Card("a", see="zb"),), 97, 1, 1, 1, 0, 2, 26, 2)

    def test_entry_cards(self):
        self.check((Card("a"),), 97, 1, 1, 1, 1, 0)
        self.check((Card("ab", (), "", ("z", "c")),), 97, 1, 2, 1, 2, 1, 2, 1, 26, 1, 3)
        self.check((Card("a", (7,), "", ("b",)),), 97, 1, 1, 1, 2, 0, 7, 1, 1, 2)
        self.check((Card("b"), Card("a", see="b")), 97, 2, 1, 2, 1, 0, 1, 1, 0, 1, 2)

    def test_books(self):
        books = (1, 255, 256, 511, 512, 999)
        self.check((Card("a", books),), 97, 1, 1, 1, 7, 0, 1, 0, 255, 1, 0, 1, 255, 2, 0, 3, 231, 0)
        for book, codes in ((1, (0, 1)), (255, (0, 255)), (256, (1, 0)), (999, (3, 231))):
            self.check((Card("a", (book,)),), 97, 1, 1, 1, 2, *codes, 0)

    def test_greatest_numbers(self):
        card = Card("abcdefgh", (1, 2, 3, 4, 5, 6), "", ("z" * 8, "y" * 8, "x" * 8, "w" * 8))
        self.assertEqual(decode_drawer(encode_drawer(Drawer((card,) * 16))), Drawer((card,) * 16))
        self.assertEqual(encode_drawer(Drawer((card,) * 16))[:12], [97, 16, 8, 1, 2, 3, 4, 5, 6, 7, 8, 7])

    def test_some_drawers(self):
        for drawer in some_drawers(100, 16):
            codes = encode_drawer(drawer)
            self.assertIs(codes.__class__, list)
            self.assertTrue(all(code.__class__ is int and 0 <= code <= 255 for code in codes))
            self.assertEqual(codes, with_checksum(*codes[:-1]))
            self.assertEqual(decode_drawer(codes), drawer)


class DecodeErrorTest(unittest.TestCase):

    def check(self, values, offset):
        copy = list(values)
        with self.assertRaises(DecodeError) as caught:
            decode_drawer(values)
        self.assertEqual(caught.exception.offset, offset, values)
        self.assertEqual(values, copy)

    def check_item(self, ahead, least, greatest):
        """Check that an item behind others can be these numbers, and nothing else."""
        for wrong in (*NO_INTEGERS, least - 1, greatest + 1, -1, 256, 10 ** 18, -10 ** 18):
            for behind in ([], [0], [1, 1, 1]):
                self.check([*ahead, wrong, *behind], len(ahead))
        for right in range(least, greatest + 1):
            with self.assertRaises(DecodeError) as caught:
                decode_drawer([*ahead, right])
            self.assertEqual(caught.exception.offset, len(ahead) + 1)

    def test_no_items(self):
        self.check([], 0)

    def test_each_kind_of_item(self):
        self.check_item([], 97, 97)
        self.check_item([97], 0, 16)
        self.check_item([97, 1], 1, 8)
        self.check_item([97, 1, 8], 1, 26)
        self.check_item([97, 1, 8, 1, 2, 3, 4, 5, 6, 7], 1, 26)
        self.check_item([97, 1, 1, 1], 0, 7)
        self.check_item([97, 1, 1, 1, 0], 1, 8)
        self.check_item([97, 1, 1, 1, 0, 2, 5], 1, 26)
        self.check_item([97, 1, 1, 1, 2], 0, 3)
        self.check_item([97, 1, 1, 1, 2, 1], 0, 255)
        self.check_item([97, 1, 1, 1, 1], 0, 4)
        self.check_item([97, 1, 1, 1, 2, 0, 9], 0, 4)
        self.check_item([97, 1, 1, 1, 1, 4], 1, 8)
        self.check_item([97, 1, 1, 1, 1, 4, 1, 2], 1, 8)
        self.check_item([97, 2, 1, 1, 1, 0], 1, 8)

    def test_books_beyond_their_limits(self):
        for codes in ((0, 0), (3, 232), (3, 255)):
            self.check(with_checksum(97, 1, 1, 1, 2, *codes, 0), 5)
            self.check([97, 1, 1, 1, 2, *codes], 5)
            self.check([97, 1, 1, 1, 3, *codes, 9, 9], 5)

    def test_books_that_do_not_ascend(self):
        self.check(with_checksum(97, 1, 1, 1, 3, 1, 4, 1, 4, 0), 7)
        self.check(with_checksum(97, 1, 1, 1, 3, 1, 4, 1, 3, 0), 7)
        self.check(with_checksum(97, 1, 1, 1, 3, 1, 4, 0, 255, 0), 7)
        self.check(with_checksum(97, 1, 1, 1, 4, 1, 4, 1, 5, 0, 0, 0), 9)
        self.check(with_checksum(97, 1, 1, 1, 4, 0, 1, 0, 5, 0, 3, 0), 9)
        self.check(with_checksum(97, 1, 1, 1, 4, 0, 1, 0, 5, 0, 5, 0), 9)

    def test_the_second_item_of_a_book_comes_ahead_of_the_book(self):
        self.check([97, 1, 1, 1, 2, 0, 256], 6)
        self.check([97, 1, 1, 1, 2, 3, True], 6)
        self.check([97, 1, 1, 1, 3, 1, 4, 0, -1], 8)
        self.check([97, 1, 1, 1, 2, 3], 6)
        self.check([97, 1, 1, 1, 3, 1, 4, 0], 8)

    def test_the_books_of_each_card_ascend_for_themselves(self):
        drawer = Drawer((Card("a", (5, 6)), Card("a", (5,))))
        self.assertEqual(decode_drawer(encode_drawer(drawer)), drawer)

    def test_wrong_checksums(self):
        codes = encode_drawer(plain("ab"))
        for wrong in (*NO_INTEGERS, *range(-1, 257)):
            if wrong != codes[-1] or isinstance(wrong, bool):
                self.check([*codes[:-1], wrong], len(codes) - 1)
                self.check([*codes[:-1], wrong, 0], len(codes) - 1)
        # The checksum of no cards is 1, which True is not.
        self.check([97, 0, True], 2)

    def test_items_behind_the_checksum(self):
        for drawer in (Drawer(()), plain("ab")):
            codes = encode_drawer(drawer)
            for behind in ([0], [None], [1, 2], codes):
                self.check(codes + behind, len(codes))

    def test_items_that_are_missing(self):
        card = Card("tram", (7, 300), "", ("bus", "z"))
        codes = encode_drawer(Drawer((card, Card("rail", see="tram"), Card("a"))))
        for many in range(len(codes)):
            self.check(codes[:many], many)

    def test_ahead_of_cards_that_cannot_be(self):
        codes = [97, 2, 1, 1, 0, 1, 1, 1, 1, 1, 0]
        self.check([*codes[:-1], 5], 10)
        self.check(codes, 11)
        self.check([*codes, with_checksum(*codes)[-1] + 1], 11)
        self.check([*with_checksum(*codes), 4], 12)

    def test_lists_that_were_changed(self):
        dice = Dice(20)
        passed = 0
        for drawer in some_drawers(60, 4):
            codes = encode_drawer(drawer)
            for place in range(len(codes) - 1):
                for _ in range(4):
                    changed = with_checksum(*codes[:place], dice.throw(9), *codes[place + 1:-1])
                    try:
                        decoded = decode_drawer(changed)
                    except DecodeError as error:
                        self.assertGreaterEqual(error.offset, min(place, len(changed)) - 1)
                    except InvalidCard:
                        pass
                    else:
                        passed += 1
                        self.assertEqual(encode_drawer(decoded), changed)
        self.assertGreater(passed, 200)


class CardsThatCannotBeTest(unittest.TestCase):

    def check(self, part, *codes):
        with self.assertRaises(InvalidCard) as caught:
            decode_drawer(with_checksum(*codes))
        self.assertEqual(caught.exception.part, part)

    def test_see_cards_to_their_own_heading(self):
        self.check("see", 97, 1, 1, 1, 0, 1, 1)

    def test_headings_twice_and_the_own_heading(self):
        self.check("also", 97, 1, 1, 1, 1, 1, 1, 1)
        self.check("also", 97, 1, 1, 1, 1, 2, 1, 2, 1, 2)

    def test_the_first_card(self):
        self.check("see", 97, 2, 1, 1, 0, 1, 1, 1, 1, 1, 1, 1, 1)
        self.check("also", 97, 2, 1, 1, 1, 1, 1, 1, 1, 1, 0, 1, 1)


if __name__ == "__main__":
    unittest.main()
