"""Requests, one after another, and cards that are put in front of all others once they are found."""

from seerings.checks import check_number, check_place, check_requests, check_rule
from seerings.drawers import Drawer, filed, headings_along
from seerings.lookups import seek

MOST_ROUNDS = 10 ** 18


def in_front(order, place):
    """Return an order in which the card of a place was put in front.

    An order tells of the cards, as they lie, at which places they lay at first.
    """
    return (order[place],) + order[:place] + order[place + 1:]


def request_made(headings, rule, order, heading):
    """Make a request; return the order of the cards behind it, and how many looks it took.

    The headings are those of the cards, as they lay at first.
    """
    found, seen = seek(tuple([headings[place] for place in order]), rule, heading)
    if found is None:
        return order, len(seen)
    return in_front(order, found), len(seen)


def all_made(headings, rule, order, requests):
    """Make all requests; return the order of the cards behind them, and how many looks they took."""
    total = 0
    for heading in requests:
        order, many = request_made(headings, rule, order, heading)
        total += many
    return order, total


def first_order(drawer):
    """Return the order of cards that lie as they lay at first."""
    return tuple(range(len(drawer)))


def drawer_by(drawer, order):
    """Return the drawer with its cards in an order."""
    return Drawer(tuple([drawer[place] for place in order]))


def used(drawer, rule, requests):
    """Return the drawer behind some requests, and how many looks were made."""
    check_rule(rule)
    check_requests(requests)
    order, total = all_made(headings_along(drawer), rule, first_order(drawer), requests)
    return drawer_by(drawer, order), total


def used_far(drawer, rule, requests, count):
    """Return the drawer behind so many rounds of some requests, and how many looks were made."""
    check_rule(rule)
    check_requests(requests)
    check_number(count, 0, MOST_ROUNDS)
    headings = headings_along(drawer)
    order = first_order(drawer)
    total = 0
    made = 0
    before = {}
    while made < count and order not in before:
        before[order] = (made, total)
        order, many = all_made(headings, rule, order, requests)
        total += many
        made += 1
    if made < count:
        # From here on everything comes round again, so only what does not fill a whole turn is made.
        first, first_total = before[order]
        turns, rest = divmod(count - made, made - first)
        total += turns * (total - first_total)
        for _ in range(rest):
            order, many = all_made(headings, rule, order, requests)
            total += many
    return drawer_by(drawer, order), total


def first_in_front(drawer, rule, requests, place):
    """Return the round and index of the first request behind which a card lies in front, or None."""
    check_rule(rule)
    check_requests(requests)
    check_place(len(drawer), place)
    if place == 0:
        return 0, -1
    headings = headings_along(drawer)
    order = first_order(drawer)
    before = {}
    # A card that is not in front by the time everything comes round again never is.
    while order not in before:
        number = len(before)
        before[order] = True
        for index, heading in enumerate(requests):
            order, _ = request_made(headings, rule, order, heading)
            if order[0] == place:
                return number, index
    return None


def looks_at_rest(row, rule, requests):
    """Return how many looks requests take in a row of headings that stays as it is."""
    return sum([len(seek(row, rule, heading)[1]) for heading in requests])


def cost(drawer, rule, requests):
    """Return how many looks requests take if no card is put in front."""
    check_rule(rule)
    check_requests(requests)
    return looks_at_rest(headings_along(drawer), rule, requests)


def best_order(drawer, requests):
    """Return the fewest looks that requests take from the first card on, and the least order for these."""
    check_requests(requests)
    row = headings_along(drawer)
    # A card for each heading that is requested lies ahead of all others, those of the most requests first.
    wanted = [heading for heading in drawer.headings if heading in requests]
    firsts = sorted([(-requests.count(heading), row.index(heading)) for heading in wanted])
    ahead = [place for many, place in firsts]
    behind = [place for place in range(len(row)) if place not in ahead]
    order = tuple(ahead + behind)
    return looks_at_rest(tuple([row[place] for place in order]), "all", requests), order


def card_found(drawer, rule, heading):
    """Return the card that is found when a heading is looked up, or None."""
    place = seek(headings_along(drawer), rule, heading)[0]
    return None if place is None else drawer[place]


def worth_filing(drawer, rule, requests):
    """Tell by a word whether requests take fewer looks once a drawer is filed, and find equal cards."""
    check_rule(rule)
    check_requests(requests)
    later = filed(drawer)
    for heading in requests:
        if card_found(later, rule, heading) != card_found(drawer, rule, heading):
            return "lost"
    fewer = looks_at_rest(headings_along(later), rule, requests) < looks_at_rest(headings_along(drawer), rule, requests)
    return "yes" if fewer else "no"
