"""The play of a book: its alive deeds, done in the order of stamps."""

from sharedscopes.basics import is_like
from sharedscopes.books import check_book, check_stamp, check_stamps
from sharedscopes.courses import course_of
from sharedscopes.deeds import placed_by
from sharedscopes.errors import NoStamp


def play_of(book, without=()):
    """The rows (stamp, outcome, chain) of all alive deeds, as if these deeds were not there."""
    check_book(book)
    check_stamps(book, without)
    return course_of(book, without).rows


def accepts_play(book, value):
    """Whether any value is the play of the book."""
    check_book(book)
    return is_like(value, play_of(book))


def row_of(book, stamp):
    """The deed's row in the play, None if it is not alive."""
    check_book(book)
    check_stamp(book, stamp)
    rows = {row[0]: row for row in play_of(book)}
    return rows.get(stamp)


def placings_of(book, thing):
    """The stamps of the done deeds that placed or dropped the thing, ascending."""
    check_book(book)
    check_stamp(book, thing)
    if book[thing][2][0] != "make":
        raise NoStamp(thing)
    done = [stamp for stamp, outcome, _ in play_of(book) if outcome == "done"]
    return [stamp for stamp in done if placed_by(book[stamp]) == thing]
