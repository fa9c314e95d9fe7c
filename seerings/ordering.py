"""Cards that are out of order, and the moves by which all headings are found."""

from seerings.checks import check_number, check_rule
from seerings.drawers import headings_along
from seerings.lookups import seek

MOST_MOVES = 2


def most_in_order(row):
    """Return how many headings of a row can be left at most, so that they are filed."""
    lengths = []
    for place, heading in enumerate(row):
        ahead = [lengths[before] for before in range(place) if row[before] <= heading]
        lengths.append(max(ahead, default=0) + 1)
    return max(lengths, default=0)


def out_of_order(drawer):
    """Return the places of the fewest cards without which the others are filed."""
    row = headings_along(drawer)
    left = most_in_order(row)
    last = ""
    out = []
    for place, heading in enumerate(row):
        behind = [later for later in row[place + 1:] if later >= last]
        # The first tuple has the earliest places: a card goes whenever the rest can do without it.
        if most_in_order(behind) == left:
            out.append(place)
        else:
            left -= 1
            last = heading
    return tuple(out)


def finds_all(row, rule, headings):
    """Tell whether something is found for each of some headings."""
    for heading in headings:
        if seek(row, rule, heading)[0] is None:
            return False
    return True


def moves_of(row):
    """Return all moves in a row, ascending, as tuples of a move and the row behind it."""
    moves = []
    for place, heading in enumerate(row):
        rest = row[:place] + row[place + 1:]
        for other in range(len(row)):
            if other != place:
                moves.append(((place, other), rest[:other] + (heading,) + rest[other:]))
    return moves


def one_move_on(reached):
    """Return a dict from all rows that one move more leads to, to the least lists of moves.

    Both dicts are in the order of their lists, so the first list for a row is the least.
    """
    further = {}
    for row, moves in reached.items():
        for move, moved in moves_of(row):
            if moved not in further:
                further[moved] = moves + [move]
    return further


def fewest_moves(drawer, rule, most):
    """Return the shortest list of moves after which each heading is found, or None."""
    check_rule(rule)
    check_number(most, 0, MOST_MOVES)
    headings = drawer.headings
    reached = {headings_along(drawer): []}
    for number in range(most + 1):
        if number > 0:
            reached = one_move_on(reached)
        for row, moves in reached.items():
            if finds_all(row, rule, headings):
                return moves
    return None
