"""Further headings that are put on cards, until all books are reached."""

from seerings.cards import MOST_ALSO
from seerings.checks import check_headings, check_number, check_rule
from seerings.gathering import all_behind, books_at, ways_on
from seerings.walks import travel

MOST_ADDITIONS = 2


def single_additions(drawer):
    """Return all additions to entry cards that fit if there is room for them, ascending."""
    additions = []
    for place, card in enumerate(drawer.cards):
        if not card.leads:
            for heading in drawer.headings:
                if heading != card.heading and heading not in card.also:
                    additions.append((place, heading))
    return additions


def has_room(drawer, additions, place):
    """Tell whether a card can have one heading more once some additions were made."""
    added = [there for there, heading in additions if there == place]
    return len(drawer[place].also) + len(added) < MOST_ALSO


def one_addition_more(drawer, lists, singles):
    """Return all ascending lists of one addition more, in order, for lists in order."""
    further = []
    for additions in lists:
        for addition in singles:
            # What is reached is the same in whatever order additions are made, so the least list ascends.
            ascends = not additions or additions[-1] < addition
            if ascends and has_room(drawer, additions, addition[0]):
                further.append(additions + [addition])
    return further


def ways_with(ways, ends, additions):
    """Return the places to which each place leads once additions were made.

    An addition leads to where the walk from its heading ends. It does not change
    that end, since no card is put elsewhere or gets another heading.
    """
    further = [list(places) for places in ways]
    for place, heading in additions:
        if ends[heading] is not None:
            further[place].append(ends[heading])
    return further


def reach_all(drawer, books, ways, starts):
    """Tell whether just these books are reached from each of some places, None for nowhere."""
    for start in starts:
        places = [] if start is None else [start] + all_behind(ways, start)
        if books_at(drawer, places) != books:
            return False
    return True


def mend(drawer, rule, headings, most):
    """Return the shortest list of additions after which some headings reach all books, or None."""
    check_rule(rule)
    check_headings(headings)
    check_number(most, 0, MOST_ADDITIONS)
    places = list(range(len(drawer)))
    books = books_at(drawer, places)
    ways = [ways_on(drawer, rule, place) for place in places]
    ends = {heading: travel(drawer, rule, heading).end for heading in drawer.headings}
    starts = [travel(drawer, rule, heading).end for heading in headings]
    singles = single_additions(drawer)
    lists = [[]]
    for number in range(most + 1):
        if number > 0:
            lists = one_addition_more(drawer, lists, singles)
        for additions in lists:
            if reach_all(drawer, books, ways_with(ways, ends, additions), starts):
                return additions
    return None
