"""The code of a drawer: a list of integers from 0 to 255."""

from seerings.cards import LAST_BOOK, MOST_ALSO, MOST_BOOKS, Card
from seerings.checks import LETTERS, LONGEST_WORD, is_number
from seerings.drawers import MOST_CARDS, Drawer
from seerings.errors import DecodeError

MARK = 97
FIRST_CHECKSUM = 7


def codes_of_word(word):
    """Return the items of a heading."""
    return [len(word)] + [LETTERS.index(letter) + 1 for letter in word]


def codes_of_card(card):
    """Return the items of a card."""
    codes = codes_of_word(card.heading)
    if card.leads:
        return codes + [0] + codes_of_word(card.see)
    codes.append(len(card.books) + 1)
    for book in card.books:
        codes.extend([book // 256, book % 256])
    codes.append(len(card.also))
    for heading in card.also:
        codes.extend(codes_of_word(heading))
    return codes


def checksum_of(codes):
    """Return the checksum of the items ahead of it."""
    checksum = FIRST_CHECKSUM
    for code in codes:
        checksum = (15 * checksum + code) % 233
    return checksum


def encode_drawer(drawer):
    """Return the code of a drawer."""
    codes = [MARK, len(drawer)]
    for card in drawer.cards:
        codes.extend(codes_of_card(card))
    codes.append(checksum_of(codes))
    return codes


class Reader:
    """Reads the items of a code, one after another."""

    def __init__(self, codes):
        self.codes = list(codes)
        self.offset = 0

    def read_number(self, least, greatest):
        """Read an integer within limits."""
        if self.offset == len(self.codes) or not is_number(self.codes[self.offset], least, greatest):
            raise DecodeError(self.offset)
        number = self.codes[self.offset]
        self.offset += 1
        return number

    def read_word(self):
        """Read a heading."""
        many = self.read_number(1, LONGEST_WORD)
        letters = []
        for _ in range(many):
            letters.append(LETTERS[self.read_number(1, len(LETTERS)) - 1])
        return "".join(letters)

    def read_book(self, last):
        """Read a book that is greater than the last one."""
        offset = self.offset
        quotient = self.read_number(0, 3)
        book = 256 * quotient + self.read_number(0, 255)
        if not is_number(book, last + 1, LAST_BOOK):
            raise DecodeError(offset)
        return book

    def read_parts(self):
        """Read a card; return the tuple of its parts, since it is not yet told whether it can be."""
        heading = self.read_word()
        many = self.read_number(0, MOST_BOOKS + 1)
        if many == 0:
            return heading, (), self.read_word(), ()
        books = []
        for _ in range(many - 1):
            books.append(self.read_book(books[-1] if books else 0))
        also = []
        for _ in range(self.read_number(0, MOST_ALSO)):
            also.append(self.read_word())
        return heading, tuple(books), "", tuple(also)


def decode_drawer(values):
    """Return the drawer of a code."""
    reader = Reader(values)
    reader.read_number(MARK, MARK)
    many = reader.read_number(0, MOST_CARDS)
    rows = []
    for _ in range(many):
        rows.append(reader.read_parts())
    checksum = checksum_of(values[:reader.offset])
    reader.read_number(checksum, checksum)
    if reader.offset < len(values):
        raise DecodeError(reader.offset)
    return Drawer(tuple([Card(heading, books, see, also) for heading, books, see, also in rows]))
