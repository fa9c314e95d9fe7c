"""What was lost, and by which rule was looked up, as what searchers came to tells."""

from seerings.checks import RULES, check_log, check_number, check_place, check_rule
from seerings.errors import NoLoss
from seerings.gathering import reached_books
from seerings.losing import places_together
from seerings.walks import landings, travel

MOST_LOSSES = 3


def check_trace(rule, log, most):
    """Raise the errors that are common to all that is told of a log."""
    check_rule(rule)
    check_log(log)
    check_number(most, 0, MOST_LOSSES)


def fits_log(drawer, rule, log):
    """Tell whether each heading of a log reaches just its books."""
    for heading, books in log:
        if reached_books(drawer, rule, heading) != books:
            return False
    return True


def losses_by(drawer, rule, log, most):
    """Return all losses of at most so many cards by which a log comes about."""
    losses = []
    for size in range(most + 1):
        for places in places_together(len(drawer), size):
            if fits_log(drawer.without(places), rule, log):
                losses.append(places)
    return losses


def possible_losses(drawer, rule, log, most):
    """Return all tuples of places without whose cards a log comes about, shorter ones first."""
    check_trace(rule, log, most)
    return losses_by(drawer, rule, log, most)


def judged(drawer, rule, log, most, place):
    """Tell by a word whether the card of a place is lost in all, some or none of the possible losses."""
    check_trace(rule, log, most)
    check_place(len(drawer), place)
    losses = losses_by(drawer, rule, log, most)
    if not losses:
        raise NoLoss()
    lost_in = [places for places in losses if place in places]
    if len(lost_in) == len(losses):
        return "surely"
    return "perhaps" if lost_in else "never"


def most_alike(drawers, rule, heading):
    """Return in how many drawers at most a heading reaches the same books."""
    numbers = {}
    for drawer in drawers:
        books = reached_books(drawer, rule, heading)
        numbers[books] = numbers.get(books, 0) + 1
    return max(numbers.values())


def next_heading(drawer, rule, log, most):
    """Return the heading whose reach leaves the fewest losses in the worst case, or None."""
    check_trace(rule, log, most)
    drawers = [drawer.without(places) for places in losses_by(drawer, rule, log, most)]
    if not drawers or not drawer.headings:
        return None
    # The headings ascend, so of several equal ones the first one is the least pair.
    return min([(most_alike(drawers, rule, heading), heading) for heading in drawer.headings])[1]


def difference(drawer, one, other):
    """Return the first known heading whose walks by two rules end differently, or None."""
    check_rule(one)
    check_rule(other)
    ends = landings(drawer, other)
    for heading, end in landings(drawer, one).items():
        if end != ends[heading]:
            return heading
    return None


def fits_counts(drawer, rule, counts):
    """Tell whether the walk from each heading has just so many looks."""
    return all([travel(drawer, rule, heading).total == total for heading, total in counts])


def possible_rules(drawer, counts):
    """Return the rules by which walks have just so many looks, ascending."""
    check_log(counts)
    return [rule for rule in sorted(RULES) if fits_counts(drawer, rule, counts)]
