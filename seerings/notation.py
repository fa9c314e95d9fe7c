"""The text of a drawer: a row of words for each card."""

from seerings.cards import Card
from seerings.checks import is_digits, is_word
from seerings.drawers import Drawer
from seerings.errors import InvalidText

MOST_DIGITS = 3


def row_of_card(card):
    """Return the row of a card in a text."""
    if card.leads:
        return f"see {card.heading} {card.see}"
    words = ["card", card.heading]
    words.extend([str(book) for book in card.books])
    if card.also:
        words.append("also")
        words.extend(card.also)
    return " ".join(words)


def format_drawer(drawer):
    """Return the text of a drawer."""
    return "\n".join([row_of_card(card) for card in drawer.cards])


def words_by_row(text):
    """Return the rows of a text, as lists of words; what stands between two blanks is a word, even if empty."""
    if text == "":
        return []
    return [row.split(" ") for row in text.split("\n")]


def is_book(word, last):
    """Tell whether a word is the number of a book that is greater than the last one."""
    if not is_digits(word, MOST_DIGITS) or word.startswith("0"):
        return False
    return int(word) > last


def index_of_also(words):
    """Return the index of the first `also` behind the heading, or else the number of the words."""
    for index, word in enumerate(words):
        if index > 1 and word == "also":
            return index
    return len(words)


def wrong_in_see(words):
    """Return the index of the first word behind the heading of a see card that is wrong, or None."""
    if len(words) < 3 or not is_word(words[2]):
        return 2
    return 3 if len(words) > 3 else None


def wrong_in_entry(words):
    """Return the index of the first word behind the heading of an entry card that is wrong, or None."""
    border = index_of_also(words)
    last = 0
    for index in range(2, border):
        if not is_book(words[index], last):
            return index
        last = int(words[index])
    if border + 1 == len(words):
        return len(words)
    for index in range(border + 1, len(words)):
        if not is_word(words[index]):
            return index
    return None


def wrong_word(words):
    """Return the index of the first word of a card's row that is wrong, superfluous or missing, or None."""
    if not words or words[0] not in ("see", "card"):
        return 0
    if len(words) < 2 or not is_word(words[1]):
        return 1
    return wrong_in_see(words) if words[0] == "see" else wrong_in_entry(words)


def card_by(words):
    """Return the card of a row of which no word is wrong."""
    if words[0] == "see":
        return Card(words[1], (), words[2])
    border = index_of_also(words)
    books = tuple([int(word) for word in words[2:border]])
    return Card(words[1], books, "", tuple(words[border + 1:]))


def parse_drawer(text):
    """Return the drawer of a text."""
    rows = words_by_row(text)
    for row, words in enumerate(rows):
        index = wrong_word(words)
        if index is not None:
            raise InvalidText(row, index)
    return Drawer(tuple([card_by(words) for words in rows]))
