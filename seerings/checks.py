"""What is asked of arguments throughout the package."""

from seerings.errors import (
    InvalidHeading, InvalidLog, InvalidNumber, InvalidRequests, InvalidRows, InvalidRule, InvalidTally, InvalidWay,
    UnknownPlace,
)

LETTERS = "abcdefghijklmnopqrstuvwxyz"
DIGITS = "0123456789"
LONGEST_WORD = 8
RULES = ("all", "leaf", "half")
WAYS = ("broad", "deep", "straight")
MOST_REQUESTS = 12
MOST_ROWS = 3
MOST_IN_ROW = 4


def is_word(text):
    """Tell whether this is one to eight letters a to z."""
    if not isinstance(text, str) or not 1 <= len(text) <= LONGEST_WORD:
        return False
    return all([letter in LETTERS for letter in text])


def is_number(number, least, greatest):
    """Tell whether this is an integer, and no boolean, within limits."""
    if isinstance(number, bool) or not isinstance(number, int):
        return False
    return least <= number <= greatest


def is_digits(text, most):
    """Tell whether a text is at least one and at most so many digits 0 to 9."""
    return 1 <= len(text) <= most and all([sign in DIGITS for sign in text])


def check_rule(rule):
    """Raise InvalidRule for what is no rule of looking up."""
    if rule not in RULES:
        raise InvalidRule()


def check_way(way):
    """Raise InvalidWay for what is no way of going on."""
    if way not in WAYS:
        raise InvalidWay()


def check_heading(heading):
    """Raise InvalidHeading for what is no word."""
    if not is_word(heading):
        raise InvalidHeading()


def check_headings(headings):
    """Raise InvalidHeading if one of some headings is no word."""
    for heading in headings:
        check_heading(heading)


def check_number(number, least, greatest):
    """Raise InvalidNumber for what is no integer within limits."""
    if not is_number(number, least, greatest):
        raise InvalidNumber()


def check_place(many, place):
    """Raise UnknownPlace for what is no place among so many cards."""
    if not is_number(place, 0, many - 1):
        raise UnknownPlace()


def first_without_word(rows):
    """Return the index of the first tuple whose heading is no word, None if there is none."""
    for index, row in enumerate(rows):
        if not is_word(row[0]):
            return index
    return None


def check_log(log):
    """Raise InvalidLog for the first tuple of a log, or of counts, whose heading is no word."""
    index = first_without_word(log)
    if index is not None:
        raise InvalidLog(index)


def check_tally(tally):
    """Raise InvalidTally for the first tuple of a tally whose heading is no word."""
    index = first_without_word(tally)
    if index is not None:
        raise InvalidTally(index)


def first_wrong_request(requests, most):
    """Return the index of the first request that is no word or one too many, None if there is none."""
    for index, heading in enumerate(requests):
        if index == most or not is_word(heading):
            return index
    return None


def check_requests(requests):
    """Raise InvalidRequests for the first request that is no word or one too many."""
    index = first_wrong_request(requests, MOST_REQUESTS)
    if index is not None:
        raise InvalidRequests(index)


def check_rows(rows):
    """Raise InvalidRows for the first row with a wrong request or one too many, or if there are no rows."""
    for index, row in enumerate(rows):
        if index == MOST_ROWS or first_wrong_request(row, MOST_IN_ROW) is not None:
            raise InvalidRows(index)
    if not rows:
        raise InvalidRows(0)
