"""Drawers: rows of cards, as they lie one behind another."""

from seerings.checks import check_place
from seerings.errors import InvalidDrawer, UnknownPlace

MOST_CARDS = 16


class Drawer:
    """A drawer of cards; it does not change."""

    def __init__(self, cards):
        if len(cards) > MOST_CARDS:
            raise InvalidDrawer()
        self._cards = tuple(cards)

    @property
    def cards(self):
        """The cards, as they lie."""
        return self._cards

    @property
    def headings(self):
        """The headings of the cards, ascending, each once."""
        return tuple(sorted({card.heading for card in self._cards}))

    def without(self, places):
        """Return the drawer without the cards of different places."""
        for place in places:
            check_place(len(self._cards), place)
        if len(set(places)) < len(places):
            raise UnknownPlace()
        return Drawer(tuple([card for place, card in enumerate(self._cards) if place not in places]))

    def moved(self, place, other):
        """Return the drawer in which the card of a place lies at another one."""
        check_place(len(self._cards), place)
        check_place(len(self._cards), other)
        cards = list(self._cards)
        card = cards.pop(place)
        cards.insert(other, card)
        return Drawer(tuple(cards))

    def __getitem__(self, place):
        check_place(len(self._cards), place)
        return self._cards[place]

    def __iter__(self):
        raise TypeError("a drawer cannot be iterated over")

    def __len__(self):
        return len(self._cards)

    def __eq__(self, other):
        return isinstance(other, Drawer) and self._cards == other._cards


def headings_along(drawer):
    """Return the tuple of the headings of all cards, as the cards lie."""
    return tuple([card.heading for card in drawer.cards])


def filed(drawer):
    """Return the drawer with its cards filed, those of one heading as they lay."""
    return Drawer(tuple(sorted(drawer.cards, key=lambda card: card.heading)))


def is_filed(drawer):
    """Tell whether no heading is less than that of the card ahead."""
    row = headings_along(drawer)
    return all([ahead <= heading for ahead, heading in zip(row, row[1:])])


def with_card(drawer, card, place):
    """Return the drawer into which a card was put, so that it lies at a place."""
    check_place(len(drawer) + 1, place)
    return Drawer(drawer.cards[:place] + (card,) + drawer.cards[place:])
