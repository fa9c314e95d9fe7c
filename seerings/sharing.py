"""Several searchers, who make their requests in one drawer, in turns that are open."""

from seerings.checks import check_rows, check_rule
from seerings.drawers import headings_along
from seerings.using import first_order, request_made


def one_further(done, index):
    """Return how many requests of each row were made, once one of a row was."""
    return done[:index] + (done[index] + 1,) + done[index + 1:]


def better(one, other):
    """Return what is told of two ways to come to one order: see one_request_on."""
    least, turns = min((one[0], one[2]), (other[0], other[2]))
    return least, max(one[1], other[1]), turns


def one_request_on(headings, rule, rows, reached):
    """Return what can be reached by one request more.

    What is reached is a dict from tuples of how many requests of each row were
    made, and of the order of the cards then, to tuples of the least and of the
    greatest number of looks that this took, and of the least turns for the least.
    """
    further = {}
    for (done, order), (least, greatest, turns) in reached.items():
        for index, row in enumerate(rows):
            if done[index] < len(row):
                later, many = request_made(headings, rule, order, row[done[index]])
                told = (least + many, greatest + many, turns + (index,))
                key = (one_further(done, index), later)
                further[key] = better(told, further.get(key, told))
    return further


def ends_of(drawer, rule, rows):
    """Return a dict from the orders that there can be at the end to what is told of them."""
    check_rule(rule)
    check_rows(rows)
    headings = headings_along(drawer)
    reached = {(tuple([0] * len(rows)), first_order(drawer)): (0, 0, ())}
    for _ in range(sum([len(row) for row in rows])):
        reached = one_request_on(headings, rule, rows, reached)
    return {order: told for (done, order), told in reached.items()}


def shared_looks(drawer, rule, rows):
    """Return the least and the greatest number of all looks that there can be."""
    ends = list(ends_of(drawer, rule, rows).values())
    return min([told[0] for told in ends]), max([told[1] for told in ends])


def shared_fronts(drawer, rule, rows):
    """Return the places, at first, of all cards that can lie in front at the end."""
    ends = ends_of(drawer, rule, rows)
    return sorted({order[0] for order in ends if order})


def best_turns(drawer, rule, rows):
    """Return the least turns of the searchers with the fewest looks."""
    ends = list(ends_of(drawer, rule, rows).values())
    return min([(least, turns) for least, greatest, turns in ends])[1]
