"""Cards: see cards, which lead to another heading, and entry cards, which tell books."""

from seerings.checks import is_number, is_word
from seerings.errors import InvalidCard

MOST_BOOKS = 6
LAST_BOOK = 999
MOST_ALSO = 4


def are_books(books):
    """Tell whether these are books as a card has them."""
    if not isinstance(books, tuple) or len(books) > MOST_BOOKS:
        return False
    if not all([is_number(book, 1, LAST_BOOK) for book in books]):
        return False
    return all([book < later for book, later in zip(books, books[1:])])


def is_target(see, heading):
    """Tell whether a card with a heading can lead there, "" for nowhere."""
    return see == "" or (is_word(see) and see != heading)


def are_further(also, heading):
    """Tell whether these are further headings for a card with a heading."""
    if not isinstance(also, tuple) or len(also) > MOST_ALSO:
        return False
    if not all([is_word(word) and word != heading for word in also]):
        return False
    return len(set(also)) == len(also)


def wrong_part(heading, books, see, also):
    """Return the name of the first part that is wrong, None if there is none."""
    if not is_word(heading):
        return "heading"
    if not are_books(books):
        return "books"
    if not is_target(see, heading):
        return "see"
    # What a see card must not have is a fault of its see, even if the also is wrong in itself.
    if see != "" and (books != () or also != ()):
        return "see"
    if not are_further(also, heading):
        return "also"
    return None


class Card:
    """A card of a drawer; it does not change."""

    def __init__(self, heading, books=(), see="", also=()):
        part = wrong_part(heading, books, see, also)
        if part is not None:
            raise InvalidCard(part)
        self._heading = heading
        self._books = books
        self._see = see
        self._also = also

    @property
    def heading(self):
        """The heading under which the card is looked up."""
        return self._heading

    @property
    def books(self):
        """The books of the card, ascending."""
        return self._books

    @property
    def see(self):
        """The heading to which a see card leads, else an empty text."""
        return self._see

    @property
    def also(self):
        """The further headings where more can be found, in their order."""
        return self._also

    @property
    def leads(self):
        """Whether the card is a see card."""
        return self._see != ""

    def __eq__(self, other):
        return (isinstance(other, Card) and self._heading == other._heading and self._books == other._books
                and self._see == other._see and self._also == other._also)
