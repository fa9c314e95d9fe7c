"""A live drawer: operations on it, which are undone and redone, and blocks of them on trial."""

from seerings.checks import check_heading, check_rule, is_word
from seerings.drawers import filed, headings_along, is_filed, with_card
from seerings.errors import InvalidName, InvalidOperation, UnknownName
from seerings.using import used


class Moment:
    """What a desk has at one time; it does not change.

    It has the rule, the drawer, the number of looks, and a dict from the names
    under which something is kept to tuples of a drawer and a number of looks.
    """

    def __init__(self, rule, drawer, looked, names):
        self.rule = rule
        self.drawer = drawer
        self.looked = looked
        self.names = names

    def with_drawer(self, drawer):
        """Return the moment in which there is another drawer."""
        return Moment(self.rule, drawer, self.looked, self.names)


def card_put(moment, card, place):
    """Put a card in; like each operation, return the moment behind it, and its result."""
    later = with_card(moment.drawer, card, place)
    return moment.with_drawer(later), len(later)


def card_taken(moment, place):
    """Take the card of a place out; the result is its heading."""
    heading = moment.drawer[place].heading
    return moment.with_drawer(moment.drawer.without((place,))), heading


def card_shifted(moment, place, other):
    """Move the card of a place to another one; the result is whether the drawer is filed then."""
    later = moment.drawer.moved(place, other)
    return moment.with_drawer(later), is_filed(later)


def heading_used(moment, heading):
    """Look a heading up, and put a card that is found in front; the result is how many looks this took."""
    check_heading(heading)
    later, many = used(moment.drawer, moment.rule, (heading,))
    return Moment(moment.rule, later, moment.looked + many, moment.names), many


def cards_filed(moment):
    """File the drawer; the result is how many cards lie elsewhere than before."""
    # Equal cards are told apart by the places where they lay.
    pairs = sorted([(heading, place) for place, heading in enumerate(headings_along(moment.drawer))])
    elsewhere = [place for place, (heading, before) in enumerate(pairs) if place != before]
    return moment.with_drawer(filed(moment.drawer)), len(elsewhere)


def kept_under(moment, name):
    """Keep the drawer and the number of looks; the result is whether the name had something before."""
    if not is_word(name):
        raise InvalidName()
    names = dict(moment.names)
    names[name] = (moment.drawer, moment.looked)
    return Moment(moment.rule, moment.drawer, moment.looked, names), name in moment.names


def kept_fetched(moment, name):
    """Return to what was kept under a name; the result is the number of its cards."""
    if name not in moment.names:
        raise UnknownName()
    drawer, looked = moment.names[name]
    return Moment(moment.rule, drawer, looked, moment.names), len(drawer)


ACTIONS = {
    "put": card_put, "take": card_taken, "shift": card_shifted, "use": heading_used, "file_all": cards_filed,
    "keep_as": kept_under, "fetch": kept_fetched,
}
# How many arguments each method has whose name can stand in an operation.
ARGUMENTS = {
    "put": 2, "take": 1, "shift": 2, "use": 1, "file_all": 0, "keep_as": 1, "fetch": 1, "undo": 0, "redo": 0,
}


def is_operation(operation):
    """Tell whether this is a tuple of the name of such a method and the right number of arguments."""
    if not isinstance(operation, tuple) or len(operation) == 0:
        return False
    name = operation[0]
    return isinstance(name, str) and ARGUMENTS.get(name) == len(operation) - 1


def check_operations(operations):
    """Raise InvalidOperation for the first one that is not made up as operations are."""
    for index, operation in enumerate(operations):
        if not is_operation(operation):
            raise InvalidOperation(index)


class Line:
    """The operations of a desk, one after another; it does not change.

    It has a tuple of operations, a tuple of the moments ahead of the first one
    and behind each of them, the number of those in effect, and the moment behind
    these; the others, which stand behind them, are undone.
    """

    def __init__(self, operations, moments, effective):
        self.operations = operations
        self.moments = moments
        self.effective = effective
        self.now = moments[effective]

    def with_effective(self, effective):
        """Return the line in which so many operations are in effect."""
        return Line(self.operations, self.moments, effective)

    def with_operation(self, operation, moment):
        """Return the line in which those in effect are followed by one more, with the moment behind it."""
        operations = self.operations[:self.effective] + (operation,)
        moments = self.moments[:self.effective + 1] + (moment,)
        return Line(operations, moments, len(operations))


class Trial:
    """A block of operations on a desk, which are gone at its end unless they are held."""

    def __init__(self, desk):
        self._desk = desk
        self._line = None

    def __enter__(self):
        self._line = self._desk._line
        return self

    def hold(self):
        """Let the desk stay as it is at the end of the block."""
        self._line = None

    def __exit__(self, kind, value, trace):
        if self._line is None:
            return
        desk = self._desk
        desk._line = self._line


class Desk:
    """A drawer that changes by operations."""

    def __init__(self, drawer, rule):
        check_rule(rule)
        self._line = Line((), (Moment(rule, drawer, 0, {}),), 0)

    @classmethod
    def replay(cls, drawer, rule, operations):
        """Return a desk after a list of operations."""
        desk = cls(drawer, rule)
        desk.apply_all(operations)
        return desk

    @property
    def contents(self):
        """The drawer."""
        return self._line.now.drawer

    @property
    def look_count(self):
        """The number of all looks by use."""
        return self._line.now.looked

    @property
    def kept(self):
        """The names under which something is kept, ascending."""
        return sorted(list(self._line.now.names))

    @property
    def history(self):
        """The operations in effect, in order."""
        return list(self._line.operations[:self._line.effective])

    def put(self, card, place):
        """Put a card in at a place; return how many cards there are then."""
        return self._executed(("put", card, place))

    def take(self, place):
        """Take the card of a place out; return its heading."""
        return self._executed(("take", place))

    def shift(self, place, other):
        """Move the card of a place to another one; return whether the drawer is filed then."""
        return self._executed(("shift", place, other))

    def use(self, heading):
        """Look a heading up, and put a card that is found in front; return how many looks this took."""
        return self._executed(("use", heading))

    def file_all(self):
        """File the drawer; return how many cards lie elsewhere than before."""
        return self._executed(("file_all",))

    def keep_as(self, name):
        """Keep the drawer and the number of looks under a name; return whether it had something before."""
        return self._executed(("keep_as", name))

    def fetch(self, name):
        """Return to what was kept under a name last; return the number of its cards."""
        return self._executed(("fetch", name))

    def undo(self):
        """Undo the last operation that is in effect; return whether there was one."""
        if self._line.effective == 0:
            return False
        self._line = self._line.with_effective(self._line.effective - 1)
        return True

    def redo(self):
        """Execute the operation that was undone last once more; return whether there was one."""
        if self._line.effective == len(self._line.operations):
            return False
        # The moment behind it was kept, since it comes out the same.
        self._line = self._line.with_effective(self._line.effective + 1)
        return True

    def apply_all(self, operations):
        """Execute a list of operations, all or none; return the list of their results."""
        check_operations(operations)
        results = []
        with Trial(self) as trial:
            for operation in operations:
                results.append(self._applied(operation))
            trial.hold()
        return results

    def tried(self, operations, keep):
        """Execute a list of operations, and keep what they change or not; return the list of their results."""
        with Trial(self) as trial:
            results = self.apply_all(operations)
            if keep:
                trial.hold()
        return results

    def _applied(self, operation):
        """Execute an operation, or undo or redo one; return its result."""
        if operation[0] == "undo":
            return self.undo()
        if operation[0] == "redo":
            return self.redo()
        return self._executed(operation)

    def _executed(self, operation):
        """Execute an operation, which is in effect then; return its result."""
        action = ACTIONS[operation[0]]
        arguments = operation[1:]
        moment, result = action(self._line.now, *arguments)
        self._line = self._line.with_operation(operation, moment)
        return result
