"""Texts that show a drawer: how walks go in it, and how its cards lie."""

from seerings.checks import check_rule
from seerings.drawers import headings_along
from seerings.walks import known_headings, travel


def row_of_table(drawer, rule, heading):
    """Return the row of a table that tells of the walk from a heading."""
    trip = travel(drawer, rule, heading)
    places = ">".join([str(place) for place in trip.found])
    if not trip.found:
        places = "-"
    return f"{heading}: {places} {trip.word}"


def table(drawer, rule):
    """Return a text with a row for the walk from each known heading."""
    check_rule(rule)
    return "\n".join([row_of_table(drawer, rule, heading) for heading in known_headings(drawer)])


def sign_of(card):
    """Return the sign of a card in a strip."""
    if card.leads:
        return ">"
    return "+" if card.also else "."


def strip(drawer):
    """Return a text with a sign for each card, and one behind each that should lie further ahead."""
    row = headings_along(drawer)
    signs = []
    for place, card in enumerate(drawer.cards):
        signs.append(sign_of(card))
        if place > 0 and row[place] < row[place - 1]:
            signs.append("!")
    return "".join(signs)
