"""Books: sets of deeds, each of which has seen what it builds on."""

from sharedscopes.basics import are_at_most, is_listing
from sharedscopes.deeds import (MOST_TIME, ROOT, check_hand, has_seen_stamp, is_body, is_deed, is_stamp, names_in,
                                thing_of, under_of)
from sharedscopes.errors import NoBody, NoBook, NoStamp, NoStamps, NotClosed, TooMany, Unseen

MOST_DEEDS = 60


class Book:
    """A set of up to 60 deeds. It never changes."""

    def __init__(self, deeds=()):
        if not is_listing(deeds):
            raise NoBook(None)
        _check_single(deeds)
        if len(deeds) > MOST_DEEDS:
            raise TooMany(MOST_DEEDS)
        self._rows = sorted(deeds)
        self._table = {deed[0]: deed for deed in self._rows}
        self._stamps = [deed[0] for deed in self._rows]
        self._last = _closed_times(self._table)

    def deeds(self):
        """The whole deeds, by stamps."""
        return list(self._rows)

    def listed(self):
        """The stamps, ascending."""
        return list(self._stamps)

    def last(self, hand):
        """The time of the hand's last deed, 0 if there is none."""
        check_hand(hand)
        return self._last[hand]

    def with_deeds(self, more):
        """A new book of these deeds and more."""
        if not is_listing(more):
            raise NoBook(None)
        return Book(self._rows + list(more))

    def followed(self, hand, bodies):
        """A new book in which the hand, having seen all, does the bodies one after the other."""
        check_hand(hand)
        if not is_listing(bodies):
            raise NoBody(None)
        first = max(self._last) + 1
        self._check_bodies((first, hand), bodies)
        check_room(len(self._rows), first, len(bodies))
        last = list(self._last)
        more = []
        for at, body in enumerate(bodies):
            more.append(((first + at, hand), tuple(last), body))
            last[hand] = first + at
        return Book(self._rows + more)

    def _check_bodies(self, first, bodies):
        """Refuse bodies that, done from the first stamp on, are none or name what is not there."""
        for at, body in enumerate(bodies):
            stamp = (first[0] + at, first[1])
            if not is_body(body) or not self._has_named(first, stamp, body):
                raise NoBody(at)

    def _has_named(self, first, stamp, body):
        """Whether all that the body names is of this book, or done from the first stamp on, ahead of this stamp."""
        for name in names_in(body):
            is_ahead = name[1] == first[1] and first <= name < stamp
            if not is_ahead and name not in self._table:
                return False
        return True

    def __getitem__(self, at):
        if at not in self:
            raise NoStamp(at)
        return self._table[at]

    def __contains__(self, x):
        return is_stamp(x) and x in self._table

    def __len__(self):
        return len(self._rows)

    def __iter__(self):
        return iter(self._stamps)

    def __eq__(self, other):
        return isinstance(other, Book) and self._rows == other._rows


def has_seen(book, one, other):
    """Whether the first deed has seen the second one."""
    check_book(book)
    check_stamp(book, one)
    check_stamp(book, other)
    return has_seen_stamp(book[one], other)


def are_apart(book, one, other):
    """Whether neither of two deeds has seen the other."""
    check_book(book)
    check_stamp(book, one)
    check_stamp(book, other)
    if one == other:
        raise NoStamp(other)
    return stand_apart(book, one, other)


def check_book(book):
    """Refuse what is no Book."""
    if not isinstance(book, Book):
        raise NoBook(book)


def check_room(many, first, more):
    """Refuse more deeds, done from the time first on behind so many, than there is room for."""
    if many + more > MOST_DEEDS:
        raise TooMany(MOST_DEEDS)
    if first + more - 1 > MOST_TIME:
        raise TooMany(MOST_TIME)


def check_stamp(book, stamp):
    """Refuse what is no stamp of a deed of the book."""
    if stamp not in book:
        raise NoStamp(stamp)


def check_stamps(book, stamps):
    """Refuse what is no list or tuple of unlike stamps of the book."""
    check_among(stamps, book)


def check_among(stamps, allowed):
    """Refuse what is no list or tuple of unlike stamps that are in a Book, a list or a dict."""
    if not is_listing(stamps):
        raise NoStamps(None)
    for at, stamp in enumerate(stamps):
        if not is_stamp(stamp) or stamp not in allowed or stamp in stamps[:at]:
            raise NoStamps(at)


def are_stamps(book, value):
    """Whether any value is a tuple, not empty, of stamps of the book."""
    return isinstance(value, tuple) and len(value) > 0 and all([stamp in book for stamp in value])


def things_named(book, stamp):
    """The stamps that an ordinary deed names as thing and as under, in this order, without the root."""
    body = book[stamp][2]
    return [name for name in (thing_of(body), under_of(body)) if name is not None and name != ROOT]


def makes_named(book, stamp):
    """Those of the stamps that an ordinary deed names as thing and as under that are of makes, in this order."""
    return [name for name in things_named(book, stamp) if book[name][2][0] == "make"]


def stand_apart(book, one, other):
    """Whether neither of two stamps' deeds has seen the other."""
    return not has_seen_stamp(book[one], other) and not has_seen_stamp(book[other], one)


def are_closed(deeds, times):
    """Whether each time is 0 or that of a deed of its hand that has seen no more than these times.

    The deeds are a Book, or a dict from stamps to deeds.
    """
    for hand, time in enumerate(times):
        if time != 0:
            stamp = (time, hand)
            if stamp not in deeds or not are_at_most(deeds[stamp][1], times):
                return False
    return True


def _check_single(deeds):
    """Refuse what is no deed, or has a stamp twice."""
    ahead = set()
    for at, deed in enumerate(deeds):
        if not is_deed(deed) or deed[0] in ahead:
            raise NoBook(at)
        ahead.add(deed[0])


def _closed_times(table):
    """The times of the last deeds of the hands, if the deeds, told by stamps, are closed."""
    last = [0, 0, 0, 0]
    for stamp, deed in table.items():
        time, hand = stamp
        if deed[1][hand] != last[hand] or not are_closed(table, deed[1]):
            raise NotClosed(stamp)
        if not all([name in table and has_seen_stamp(deed, name) for name in names_in(deed[2])]):
            raise Unseen(stamp)
        last[hand] = time
    return tuple(last)
