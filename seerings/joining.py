"""Drawers that are joined, or split at a heading, and what is found behind that."""

from seerings.checks import check_heading, check_rule
from seerings.drawers import Drawer, headings_along
from seerings.lookups import seek
from seerings.walks import known_headings, travel


def joined(one, other):
    """Return the drawer with the cards of one drawer, and behind them those of another."""
    return Drawer(one.cards + other.cards)


def card_at_end(drawer, rule, heading):
    """Return the entry card at which a walk ends, or None."""
    place = travel(drawer, rule, heading).end
    return None if place is None else drawer[place]


def still_found(one, other, rule):
    """Return the known headings of a drawer by which equal cards are found once it is joined with another."""
    both = joined(one, other)
    check_rule(rule)
    found = []
    for heading in known_headings(one):
        card = card_at_end(one, rule, heading)
        if card is not None and card == card_at_end(both, rule, heading):
            found.append(heading)
    return found


def parts_at(drawer, border):
    """Return the drawers of the cards whose headings are less than a heading, and of the others."""
    ahead = [card for card in drawer.cards if card.heading < border]
    behind = [card for card in drawer.cards if card.heading >= border]
    return Drawer(tuple(ahead)), Drawer(tuple(behind))


def split(drawer, heading):
    """Return the drawers of the cards whose headings are less than a heading, and of the others."""
    check_heading(heading)
    return parts_at(drawer, heading)


def card_behind_split(parts, border, rule, heading):
    """Return the entry card at which a walk ends behind a split, or None.

    The walk can go from one part into the other, since each heading is looked up
    in the part in which it belongs.
    """
    asked = []
    sought = heading
    while sought not in asked:
        asked.append(sought)
        part = parts[0] if sought < border else parts[1]
        place = seek(headings_along(part), rule, sought)[0]
        if place is None:
            return None
        if not part[place].leads:
            return part[place]
        sought = part[place].see
    return None


def lost_at(drawer, rule, border):
    """Return the known headings by which no equal card is found once a drawer is split."""
    parts = parts_at(drawer, border)
    lost = []
    for heading in known_headings(drawer):
        card = card_at_end(drawer, rule, heading)
        if card is not None and card != card_behind_split(parts, border, rule, heading):
            lost.append(heading)
    return lost


def lost_by_split(drawer, rule, heading):
    """Return the known headings by which no equal card is found once a drawer is split at a heading."""
    check_rule(rule)
    check_heading(heading)
    return lost_at(drawer, rule, heading)


def best_split(drawer, rule):
    """Return the least heading by which both parts have cards and the fewest headings are lost, or None."""
    check_rule(rule)
    # Only a split at the least heading leaves a part empty.
    borders = drawer.headings[1:]
    if not borders:
        return None
    return min([(len(lost_at(drawer, rule, border)), border) for border in borders])[1]
