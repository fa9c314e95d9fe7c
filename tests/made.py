"""Drawers for the tests, made one after another by a fixed recipe."""

import itertools

from seerings.cards import Card
from seerings.drawers import Drawer

RULES = ("all", "leaf", "half")
WAYS = ("broad", "deep", "straight")
NO_RULES = ("", "ALL", "broad", None)
NO_WORDS = ("", "A", "abcdefghi", "a b")


def plain(text):
    """Return the drawer of plain cards with these one-letter headings."""
    return Drawer(tuple(Card(letter) for letter in text))


def spread(*rows):
    """Return a drawer of entry cards, from rows of a letter and further ones; the first has book 1, and so on."""
    cards = [Card(row[0], (number + 1,), "", tuple(row[1:])) for number, row in enumerate(rows)]
    return Drawer(tuple(cards))


def plain_drawers(letters, most):
    """Return all drawers of at most so many plain cards with these headings."""
    rows = []
    for many in range(most + 1):
        rows.extend(itertools.product(letters, repeat=many))
    return [plain(row) for row in rows]


class Dice:
    """Numbers that look thrown, but are the same each time."""

    def __init__(self, start):
        self.state = start

    def throw(self, sides):
        self.state = (self.state * 1103515245 + 12345) % 2 ** 31
        return (self.state >> 16) % sides


def some_card(dice, letters):
    """Return a card that leads, if it does, to these headings."""
    heading = letters[dice.throw(len(letters))]
    others = [letter for letter in letters if letter != heading]
    if dice.throw(3) == 0:
        return Card(heading, see=others[dice.throw(len(others))])
    books = tuple(sorted({1 + dice.throw(9) for _ in range(dice.throw(3))}))
    also = []
    for _ in range(dice.throw(4)):
        other = others[dice.throw(len(others))]
        if other not in also:
            also.append(other)
    return Card(heading, books=books, also=tuple(also))


def some_drawers(many, most, letters="abcdefg"):
    """Return so many drawers of at most so many cards."""
    dice = Dice(len(letters) + most)
    drawers = []
    for _ in range(many):
        drawers.append(Drawer(tuple(some_card(dice, letters) for _ in range(dice.throw(most + 1)))))
    return drawers
