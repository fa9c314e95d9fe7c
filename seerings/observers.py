"""Somebody who is watched looking up: which headings, and by which rules, are possible."""

from seerings.checks import check_headings, check_rule, is_number
from seerings.drawers import MOST_CARDS, headings_along
from seerings.errors import Ended, NoPair
from seerings.lookups import seek


class Guess:
    """A pair of a rule and a heading, the place that is found by it, or None, and the places looked at."""

    def __init__(self, row, rule, heading):
        self.pair = (rule, heading)
        self.found, self.seen = seek(row, rule, heading)


class Observer:
    """One who watches the looks of somebody who looks up a heading in a drawer."""

    def __init__(self, drawer, rules, headings):
        for rule in rules:
            check_rule(rule)
        check_headings(headings)
        row = headings_along(drawer)
        self._guesses = [Guess(row, rule, heading) for rule in rules for heading in headings]
        self._places = ()
        self._closed = False
        if not self._guesses:
            raise NoPair()

    @property
    def pairs(self):
        """The pairs of a rule and a heading that are possible."""
        return tuple([guess.pair for guess in self._guesses])

    @property
    def places(self):
        """The places that were seen, in order."""
        return self._places

    @property
    def is_closed(self):
        """Whether it was told that there was no look more."""
        return self._closed

    def saw(self, place):
        """Tell that the next look is at a place; return how many pairs are possible then."""
        if self._closed:
            raise Ended()
        number = len(self._places)
        left = [guess for guess in self._guesses if guess.seen[number:number + 1] == (place,)]
        # A boolean would pass for the integer to which it is equal.
        if not left or not is_number(place, 0, MOST_CARDS - 1):
            raise NoPair()
        self._guesses = left
        self._places = self._places + (place,)
        return len(left)

    def ended(self):
        """Tell that there was no look more; return how many pairs are possible then."""
        if self._closed:
            raise Ended()
        left = [guess for guess in self._guesses if guess.seen == self._places]
        if not left:
            raise NoPair()
        self._guesses = left
        self._closed = True
        return len(left)

    def next_places(self):
        """Return the places at which the next look can be, ascending."""
        number = len(self._places)
        return sorted({guess.seen[number] for guess in self._guesses if len(guess.seen) > number})

    def could_find(self):
        """Return the places that can be found in the end, ascending."""
        return sorted({guess.found for guess in self._guesses if guess.found is not None})

    def most_looks(self):
        """Return the greatest number of looks that can still come."""
        return max([len(guess.seen) for guess in self._guesses]) - len(self._places)
