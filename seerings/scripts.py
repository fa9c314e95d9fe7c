"""Scripts: rows of words that are executed on a drawer, some of them so many times or on a condition."""

from seerings.checks import RULES, is_digits, is_word
from seerings.drawers import filed, with_card
from seerings.errors import ExecutionFailed, ScriptError, SeeError, TooLong
from seerings.notation import card_by, words_by_row, wrong_word
from seerings.using import used
from seerings.walks import travel

MOST_ROWS = 60
MOST_STEPS = 300
DEEPEST = 4
ENDINGS = ("entry", "lost", "ring")
BLOCKS = ("repeat", "when")
# What stands behind the first word of each row but put, which has a card's words behind its place.
SHAPES = {
    "take": ("number",), "shift": ("number", "number"), "file": (), "use": ("rule", "heading"),
    "find": ("rule", "heading"), "repeat": ("number",), "when": ("rule", "heading", "ending"), "end": (),
}


def is_script_number(word):
    """Tell whether a word is a place or number of one or two digits without needless zeros."""
    return is_digits(word, 2) and (word == "0" or not word.startswith("0"))


def fits(word, kind):
    """Tell whether a word is of a kind."""
    if kind == "number":
        return is_script_number(word)
    if kind == "rule":
        return word in RULES
    if kind == "heading":
        return is_word(word)
    return word in ENDINGS


def is_row(words):
    """Tell whether these words are a row of a script."""
    if words[0] == "put":
        return len(words) > 1 and is_script_number(words[1]) and wrong_word(words[2:]) is None
    if words[0] not in SHAPES:
        return False
    shape = SHAPES[words[0]]
    return len(words) == len(shape) + 1 and all([fits(word, kind) for word, kind in zip(words[1:], shape)])


def ends_of_blocks(rows):
    """Return a dict from the first rows of all blocks to those of their ends; raise ScriptError for a wrong row."""
    ends = {}
    opened = []
    for index, words in enumerate(rows):
        if index == MOST_ROWS or not is_row(words):
            raise ScriptError(index)
        if words[0] in BLOCKS:
            if len(opened) == DEEPEST:
                raise ScriptError(index)
            opened.append(index)
        elif words[0] == "end":
            if not opened:
                raise ScriptError(index)
            ends[opened.pop()] = index
    if opened:
        raise ScriptError(len(rows))
    return ends


class Run:
    """A script that is executed: its rows, the ends of its blocks, the drawer, the output, and the steps taken."""

    def __init__(self, rows, ends, drawer):
        self.rows = rows
        self.ends = ends
        self.drawer = drawer
        self.output = []
        self.steps = 0


def put_row(run, words):
    """Execute a row that puts a card in."""
    run.drawer = with_card(run.drawer, card_by(words[2:]), int(words[1]))


def take_row(run, words):
    """Execute a row that takes a card out."""
    run.drawer = run.drawer.without((int(words[1]),))


def shift_row(run, words):
    """Execute a row that moves a card."""
    run.drawer = run.drawer.moved(int(words[1]), int(words[2]))


def file_row(run, words):
    """Execute a row that files the drawer."""
    run.drawer = filed(run.drawer)


def use_row(run, words):
    """Execute a row that looks a heading up, and puts a card that is found in front."""
    run.drawer, many = used(run.drawer, words[1], (words[2],))
    run.output.append(str(many))


def find_row(run, words):
    """Execute a row that tells how the walk from a heading ends."""
    run.output.append(travel(run.drawer, words[1], words[2]).word)


ACTIONS = {
    "put": put_row, "take": take_row, "shift": shift_row, "file": file_row, "use": use_row, "find": find_row,
}


def count_step(run):
    """Count a step ahead of it; raise TooLong if it is one too many."""
    if run.steps == MOST_STEPS:
        raise TooLong()
    run.steps += 1


def execute_single(run, index):
    """Execute a row that is not the first one of a block."""
    words = run.rows[index]
    action = ACTIONS[words[0]]
    try:
        action(run, words)
    except SeeError:
        raise ExecutionFailed(index)


def execute_block(run, index):
    """Execute the rows of a block, whose first row this is, as often as it says."""
    words = run.rows[index]
    if words[0] == "repeat":
        for _ in range(int(words[1])):
            count_step(run)
            execute(run, index + 1, run.ends[index])
    elif travel(run.drawer, words[1], words[2]).word == words[3]:
        execute(run, index + 1, run.ends[index])


def execute(run, first, end):
    """Execute the rows from one on, as far as another one."""
    index = first
    while index < end:
        count_step(run)
        if index in run.ends:
            execute_block(run, index)
            index = run.ends[index] + 1
        else:
            execute_single(run, index)
            index += 1


def run_script(drawer, text):
    """Return the drawer behind a script, and its output."""
    rows = words_by_row(text)
    run = Run(rows, ends_of_blocks(rows), drawer)
    execute(run, 0, len(rows))
    return run.drawer, run.output
