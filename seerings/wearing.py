"""Cards that wear as they are looked at, and fall out of the drawer.

What is left of the cards is a dict from the places, at first, of those that did
not fall out, as they lie, to how many looks each one still serves.
"""

from seerings.checks import check_number, check_requests, check_rule
from seerings.drawers import headings_along
from seerings.lookups import seek
from seerings.ordering import finds_all

MOST_STRENGTH = 10 ** 18


def check_wear(rule, requests, strength):
    """Raise the errors that are common to all that is told of wear."""
    check_rule(rule)
    check_requests(requests)
    check_number(strength, 1, MOST_STRENGTH)


def headings_left(row, left):
    """Return the headings of the cards that are left; those of all cards are a row."""
    return tuple([row[place] for place in left])


def request_worn(row, rule, heading, left):
    """Make a request; return whether a card is found, and what is left of the cards behind it."""
    there = list(left)
    found, seen = seek(headings_left(row, left), rule, heading)
    looked = [there[index] for index in seen]
    later = {}
    for place, many in left.items():
        rest = many - 1 if place in looked else many
        if rest > 0:
            later[place] = rest
    return found is not None, later


def wear_of_round(row, rule, requests, left):
    """Return how many looks each card that is left serves in one round in which none falls out."""
    there = list(left)
    worn = {place: 0 for place in there}
    for heading in requests:
        for index in seek(headings_left(row, left), rule, heading)[1]:
            worn[there[index]] += 1
    return worn


def rounds_ahead(row, rule, requests, left):
    """Make all rounds ahead of the one in which the next card falls out.

    Return how many these are, and what is left of the cards behind them.
    """
    worn = wear_of_round(row, rule, requests, left)
    rounds = min([(left[place] - 1) // many for place, many in worn.items() if many > 0], default=0)
    return rounds, {place: left[place] - rounds * worn[place] for place in left}


def served(drawer, rule, requests, strength):
    """Return how many requests find a card until the first one that finds none, None without requests."""
    check_wear(rule, requests, strength)
    if not requests:
        return None
    row = headings_along(drawer)
    left = {place: strength for place in range(len(row))}
    made = 0
    while True:
        # Rounds are counted without being made only while each of their requests finds a card.
        if finds_all(headings_left(row, left), rule, requests):
            rounds, left = rounds_ahead(row, rule, requests, left)
            made += rounds * len(requests)
        for heading in requests:
            found, left = request_worn(row, rule, heading, left)
            if not found:
                return made
            made += 1


def first_fallen(drawer, rule, requests, strength):
    """Return how many requests were made when the first cards fell out, and their places, or None."""
    check_wear(rule, requests, strength)
    row = headings_along(drawer)
    rounds, left = rounds_ahead(row, rule, requests, {place: strength for place in range(len(row))})
    made = rounds * len(requests)
    for heading in requests:
        _, later = request_worn(row, rule, heading, left)
        made += 1
        fallen = [place for place in left if place not in later]
        if fallen:
            return made, fallen
        left = later
    # Each request looks at some card, so this is a drawer without cards, or there are no requests.
    return None
