"""What the loss of cards cuts off."""

from seerings.checks import check_heading, check_number, check_rule
from seerings.gathering import books_at, reached_books

MOST_LOST = 2


def one_place_more(choices, many):
    """Return all ascending tuples of one place more, in order, for tuples in order."""
    further = []
    for places in choices:
        first = places[-1] + 1 if places else 0
        for place in range(first, many):
            further.append(places + (place,))
    return further


def places_together(many, size):
    """Return all ascending tuples of just so many places, in tuple order."""
    choices = [()]
    for _ in range(size):
        choices = one_place_more(choices, many)
    return choices


def reached_without(drawer, rule, heading, places):
    """Return the books that a heading reaches without the cards of some places."""
    return reached_books(drawer.without(places), rule, heading)


def cuts(drawer, rule, heading, book):
    """Return the places without whose card alone a heading does not reach a book any more."""
    check_rule(rule)
    check_heading(heading)
    if book not in reached_books(drawer, rule, heading):
        return []
    places = range(len(drawer))
    return [place for place in places if book not in reached_without(drawer, rule, heading, (place,))]


def least_loss(drawer, rule, heading, book):
    """Return the fewest places without whose cards a heading does not reach a book."""
    check_rule(rule)
    check_heading(heading)
    choices = [()]
    # There is such a loss: nothing is reached any more when all cards are lost.
    while True:
        for places in choices:
            if book not in reached_without(drawer, rule, heading, places):
                return places
        choices = one_place_more(choices, len(drawer))


def safe_books(drawer, rule, heading, count):
    """Return the books that a heading reaches whichever just so many cards are lost."""
    check_rule(rule)
    check_heading(heading)
    check_number(count, 0, MOST_LOST)
    many = len(drawer)
    safe = list(books_at(drawer, list(range(many))))
    for places in places_together(many, min(count, many)):
        reached = reached_without(drawer, rule, heading, places)
        safe = [book for book in safe if book in reached]
    return tuple(safe)
