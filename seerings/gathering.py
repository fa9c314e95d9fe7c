"""Gathering books from a heading on, and where entry cards lead."""

from seerings.checks import check_heading, check_headings, check_number, check_place, check_rule, check_way
from seerings.walks import travel

MOST_PATIENCE = 99


def agenda_with(agenda, way, also):
    """Return the agenda once the headings of a card were put on it."""
    if way == "broad":
        return agenda + also
    if way == "deep":
        return also + agenda
    return also


def visit(drawer, rule, way, heading, patience):
    """Return the visits of a gathering, tuples (walk, place), and how many walks it makes."""
    agenda = [heading]
    walked = []
    visits = []
    visited = []
    while agenda and len(walked) < patience:
        first = agenda.pop(0)
        if first not in walked:
            walked.append(first)
            place = travel(drawer, rule, first).end
            if place is not None and place not in visited:
                visited.append(place)
                visits.append((len(walked), place))
                agenda = agenda_with(agenda, way, list(drawer[place].also))
    return visits, len(walked)


def books_at(drawer, places):
    """Return the books of the cards of some places, ascending, each once."""
    books = [book for place in places for book in drawer[place].books]
    return tuple(sorted(set(books)))


def reached_books(drawer, rule, heading):
    """Return the books that a heading reaches."""
    visits = visit(drawer, rule, "broad", heading, MOST_PATIENCE)[0]
    return books_at(drawer, [place for walk, place in visits])


def gather(drawer, rule, way, heading, patience):
    """Return the books gathered, the places visited, and how many walks were made."""
    check_rule(rule)
    check_way(way)
    check_heading(heading)
    check_number(patience, 1, MOST_PATIENCE)
    visits, walks = visit(drawer, rule, way, heading, patience)
    places = [place for walk, place in visits]
    return books_at(drawer, places), tuple(places), walks


def reach(drawer, rule, heading):
    """Return the books that a heading reaches."""
    check_rule(rule)
    check_heading(heading)
    return reached_books(drawer, rule, heading)


def hidden(drawer, rule, headings):
    """Return the books of the drawer that none of some headings reaches."""
    check_rule(rule)
    check_headings(headings)
    reached = [book for heading in headings for book in reached_books(drawer, rule, heading)]
    return [book for book in books_at(drawer, list(range(len(drawer)))) if book not in reached]


def least_patience(drawer, rule, way, heading, book):
    """Return the least patience with which a book is gathered, or None."""
    check_rule(rule)
    check_way(way)
    check_heading(heading)
    visits = visit(drawer, rule, way, heading, MOST_PATIENCE)[0]
    for walk, place in visits:
        if book in drawer[place].books:
            return walk
    return None


def reach_bits(drawer, rule):
    """Return for each heading of the drawer, ascending, a number with a bit for each book it reaches."""
    numbers = []
    for heading in drawer.headings:
        numbers.append(sum([1 << book for book in reached_books(drawer, rule, heading)]))
    return numbers


def joined_bits(numbers):
    """Return the number with all bits of some numbers."""
    joined = 0
    for number in numbers:
        joined = joined | number
    return joined


def one_heading_more(choices, numbers):
    """Return all choices of one heading more, in order, for choices in order.

    A choice is a tuple of the ascending tuple of the indexes of its headings, and
    of the number with a bit for each book that they reach.
    """
    further = []
    for chosen, bits in choices:
        first = chosen[-1] + 1 if chosen else 0
        for index in range(first, len(numbers)):
            further.append((chosen + (index,), bits | numbers[index]))
    return further


def fewest_headings(drawer, rule):
    """Return the fewest headings that reach together what any of the drawer's reaches."""
    check_rule(rule)
    numbers = reach_bits(drawer, rule)
    wanted = joined_bits(numbers)
    choices = [((), 0)]
    while True:
        for chosen, bits in choices:
            if bits == wanted:
                return tuple([drawer.headings[index] for index in chosen])
        choices = one_heading_more(choices, numbers)


def ways_on(drawer, rule, place):
    """Return the places of the entry cards to which a card leads, ascending."""
    ends = [travel(drawer, rule, heading).end for heading in drawer[place].also]
    return sorted({end for end in ends if end is not None})


def leads_to(drawer, rule, place):
    """Return the places of the entry cards to which an entry card leads."""
    check_rule(rule)
    check_place(len(drawer), place)
    return ways_on(drawer, rule, place)


def all_behind(ways, place):
    """Return all places to which a place leads, straight or through others."""
    behind = []
    waiting = [place]
    while waiting:
        here = waiting.pop()
        for other in ways[here]:
            if other not in behind:
                behind.append(other)
                waiting.append(other)
    return behind


def also_rings(drawer, rule):
    """Return the greatest sets of entry cards each of which leads to each other one."""
    check_rule(rule)
    many = len(drawer)
    ways = [ways_on(drawer, rule, place) for place in range(many)]
    behind = [all_behind(ways, place) for place in range(many)]
    rings = []
    for place in range(many):
        ring = [other for other in range(many) if other in behind[place] and place in behind[other]]
        # A ring is met at each of its places; it is told at the first one.
        if len(ring) > 1 and ring[0] == place:
            rings.append(tuple(ring))
    return rings
