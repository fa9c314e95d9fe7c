"""Looking up a heading by a rule, and the cards that are never found."""

from seerings.checks import check_heading, check_place, check_rule
from seerings.drawers import headings_along


def seek_along(row, heading, gives_up):
    """Seek a heading from the first card on; a greater one may end it.

    Like all that seek, this takes the headings as their cards lie, and returns
    a tuple of the place, or None, and of the tuple of the places looked at.
    """
    for place, there in enumerate(row):
        if there == heading:
            return place, tuple(range(place + 1))
        if gives_up and there > heading:
            return None, tuple(range(place + 1))
    return None, tuple(range(len(row)))


def seek_by_halves(row, heading):
    """Seek a heading in the middle of the cards that are left."""
    places = []
    first = 0
    last = len(row) - 1
    while first <= last:
        middle = (first + last) // 2
        places.append(middle)
        if row[middle] == heading:
            return middle, tuple(places)
        if row[middle] > heading:
            last = middle - 1
        else:
            first = middle + 1
    return None, tuple(places)


def seek(row, rule, heading):
    """Seek a heading by a rule."""
    if rule == "half":
        return seek_by_halves(row, heading)
    return seek_along(row, heading, rule == "leaf")


def look_up(drawer, rule, heading):
    """Return the place of the card that is found, or None, and the places looked at."""
    check_rule(rule)
    check_heading(heading)
    return seek(headings_along(drawer), rule, heading)


def never_found(drawer, rule):
    """Return the places of all cards that are not found whatever is looked up."""
    check_rule(rule)
    row = headings_along(drawer)
    # A card can only be found under its own heading, so no other one need be tried.
    return [place for place, heading in enumerate(row) if seek(row, rule, heading)[0] != place]


def why_not(drawer, rule, place):
    """Tell by a tuple why the card of a place is not found; None if it is found."""
    check_rule(rule)
    check_place(len(drawer), place)
    found, places = seek(headings_along(drawer), rule, drawer[place].heading)
    if found is None:
        return "nothing", places[-1]
    if found != place:
        return "other", found
    return None
