"""What is asked of arguments throughout the package."""

from seerings.errors import InvalidHeading, InvalidNumber, InvalidRule, InvalidWay, UnknownPlace

LETTERS = "abcdefghijklmnopqrstuvwxyz"
LONGEST_WORD = 8
RULES = ("all", "leaf", "half")
WAYS = ("broad", "deep", "straight")


def is_word(text):
    """Tell whether this is one to eight letters a to z."""
    if not isinstance(text, str) or not 1 <= len(text) <= LONGEST_WORD:
        return False
    return all([letter in LETTERS for letter in text])


def is_number(number, least, greatest):
    """Tell whether this is an integer, and no boolean, within limits."""
    if isinstance(number, bool) or not isinstance(number, int):
        return False
    return least <= number <= greatest


def check_rule(rule):
    """Raise InvalidRule for what is no rule of looking up."""
    if rule not in RULES:
        raise InvalidRule()


def check_way(way):
    """Raise InvalidWay for what is no way of going on."""
    if way not in WAYS:
        raise InvalidWay()


def check_heading(heading):
    """Raise InvalidHeading for what is no word."""
    if not is_word(heading):
        raise InvalidHeading()


def check_number(number, least, greatest):
    """Raise InvalidNumber for what is no integer within limits."""
    if not is_number(number, least, greatest):
        raise InvalidNumber()


def check_place(many, place):
    """Raise UnknownPlace for what is no place among so many cards."""
    if not is_number(place, 0, many - 1):
        raise UnknownPlace()
