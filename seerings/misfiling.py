"""Cards that were put in where they do not belong, as the looks of a tally tell."""

from seerings.checks import check_number, check_rule, check_tally
from seerings.drawers import filed, headings_along
from seerings.errors import NoOrder
from seerings.lookups import seek
from seerings.ordering import MOST_MOVES, moves_of


def orders_after(many, most):
    """Return all orders of so many filed cards after at most so many moves, ascending."""
    orders = {tuple(range(many)): True}
    for _ in range(most):
        for order in list(orders):
            for move, moved in moves_of(order):
                orders[moved] = True
    return sorted(orders)


def fits_tally(row, rule, tally):
    """Tell whether looking up each heading of a tally takes just so many looks in a row of headings."""
    for heading, total in tally:
        if len(seek(row, rule, heading)[1]) != total:
            return False
    return True


def orders_by(drawer, rule, tally, most):
    """Return all orders after at most so many moves by which a tally comes about, ascending."""
    check_rule(rule)
    check_tally(tally)
    check_number(most, 0, MOST_MOVES)
    row = headings_along(filed(drawer))
    orders = []
    for order in orders_after(len(row), most):
        if fits_tally(tuple([row[place] for place in order]), rule, tally):
            orders.append(order)
    return orders


def possible_orders(drawer, rule, tally, most):
    """Return all orders after at most so many moves by which a tally comes about, ascending."""
    return orders_by(drawer, rule, tally, most)


def misplaced(drawer, rule, tally, most):
    """Return the places of the filed cards that lie at their own place in no possible order."""
    orders = orders_by(drawer, rule, tally, most)
    if not orders:
        raise NoOrder()
    return [place for place in range(len(drawer)) if all([order[place] != place for order in orders])]
