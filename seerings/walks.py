"""Walks from heading to heading, and the rings in which they end."""

from seerings.checks import check_heading, check_rule
from seerings.drawers import headings_along
from seerings.lookups import seek


class Trip:
    """A walk that was made.

    It has its word, the headings that it looked up, the places of the cards that
    it found, the number of all its looks, and the place of the entry card at its
    end, or None.
    """

    def __init__(self, word, asked, found, total):
        self.word = word
        self.asked = asked
        self.found = found
        self.total = total
        self.end = found[-1] if word == "entry" else None


def travel(drawer, rule, heading):
    """Make a walk from a heading, and return it."""
    row = headings_along(drawer)
    asked = []
    found = []
    total = 0
    sought = heading
    while sought not in asked:
        asked.append(sought)
        place, seen = seek(row, rule, sought)
        total += len(seen)
        if place is None:
            return Trip("lost", asked, found, total)
        found.append(place)
        if not drawer[place].leads:
            return Trip("entry", asked, found, total)
        sought = drawer[place].see
    return Trip("ring", asked, found, total)


def known_headings(drawer):
    """Return all headings of a drawer's cards, and to which they lead, ascending."""
    known = set(drawer.headings)
    for card in drawer.cards:
        if card.leads:
            known.add(card.see)
        for heading in card.also:
            known.add(heading)
    return sorted(known)


def walk(drawer, rule, heading):
    """Return the word with which a walk ends, and the places of the cards found."""
    check_rule(rule)
    check_heading(heading)
    trip = travel(drawer, rule, heading)
    return trip.word, tuple(trip.found)


def looks(drawer, rule, heading):
    """Return how many looks are made in a walk."""
    check_rule(rule)
    check_heading(heading)
    return travel(drawer, rule, heading).total


def landings(drawer, rule):
    """Return a dict that tells of all known headings how and where their walks end."""
    check_rule(rule)
    ends = {}
    for heading in known_headings(drawer):
        trip = travel(drawer, rule, heading)
        ends[heading] = (trip.word, trip.end)
    return ends


def see_rings(drawer, rule):
    """Return the rings round which walks go, each from its least heading on."""
    check_rule(rule)
    rings = []
    for heading in drawer.headings:
        trip = travel(drawer, rule, heading)
        # A walk that comes back to where it began has looked up its ring and nothing else.
        if trip.word == "ring" and drawer[trip.found[-1]].see == heading and heading == min(trip.asked):
            rings.append(tuple(trip.asked))
    return rings


def dearest(drawer, rule):
    """Return the most looks of a walk from a known heading, and this heading, or None."""
    check_rule(rule)
    most = None
    for heading in known_headings(drawer):
        total = travel(drawer, rule, heading).total
        if most is None or total > most[0]:
            most = (total, heading)
    return most
