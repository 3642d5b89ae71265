"""States: the things that are there behind a play, each with its kind, content and place."""

from sharedscopes.books import check_book, check_stamps
from sharedscopes.branches import part_of
from sharedscopes.courses import course_of
from sharedscopes.deeds import ROOT, is_thing
from sharedscopes.errors import NoState, NoThing


class State:
    """What the play of a book leaves behind, as if some deeds were not there. It never changes."""

    def __init__(self, book, without=()):
        check_book(book)
        check_stamps(book, without)
        course = course_of(book, without)
        self._kinds = course.kinds
        self._contents = course.contents
        self._places = course.places
        self._parts = _parts_by_place(course.places)
        self._line = [ROOT] + self._beginning(ROOT)
        self._inside = {thing: True for thing in self._line}

    def things(self):
        """The things that are there, ascending, without the root."""
        return sorted([thing for thing in self._kinds if thing != ROOT])

    def is_there(self, value):
        """Whether any value is a thing that is there, or the root."""
        return is_thing(value) and value in self._kinds

    def is_in(self, value):
        """Whether any value is a thing from which the root is come to, or the root."""
        return is_thing(value) and value in self._inside

    def kind(self, thing):
        """The kind of a thing that is there."""
        self._check(thing)
        return self._kinds[thing]

    def content(self, thing):
        """The name, binder or value of a thing that is there, None of other kinds."""
        self._check(thing)
        return self._contents[thing]

    def place(self, thing):
        """The tuple (under, key, stamp of the deed that placed it), or None for nowhere and of the root."""
        self._check(thing)
        return self._places[thing]

    def under(self, thing):
        """The things placed under this one, in order."""
        self._check(thing)
        return list(self._parts[thing])

    def holder(self, thing):
        """The thing under which this one is placed, or None."""
        self._check(thing)
        place = self._places[thing]
        return None if place is None else place[0]

    def below(self, thing):
        """The things below this one, as they begin."""
        self._check(thing)
        return self._beginning(thing)

    def line(self):
        """The things that are in, as they begin, the root first."""
        return list(self._line)

    def _check(self, thing):
        if not self.is_there(thing):
            raise NoThing(thing)

    def _beginning(self, thing):
        """What is below the thing, each one ahead of what is below it."""
        below = []
        for part in self._parts[thing]:
            below.append(part)
            below.extend(self._beginning(part))
        return below

    def __eq__(self, other):
        return (isinstance(other, State) and self._kinds == other._kinds and self._contents == other._contents
                and self._places == other._places)


def check_state(state):
    """Refuse what is no state."""
    if not isinstance(state, State):
        raise NoState(state)


def check_in(state, thing):
    """Refuse what is no state, then what is no thing that is in."""
    check_state(state)
    if not state.is_in(thing):
        raise NoThing(thing)


def check_kind(state, thing, kind):
    """Refuse what is no state, then what is no thing of this kind that is in."""
    check_in(state, thing)
    if state.kind(thing) != kind:
        raise NoThing(thing)


def ends_of(state):
    """The things that are in, as they end, the root last."""
    check_state(state)
    return _ending(state, ROOT)


def at_branch(book, branch):
    """The state of the branch's part of the book."""
    return State(part_of(book, branch))


def _parts_by_place(places):
    """The dict from all things to what is placed under them, in order."""
    parts = {thing: [] for thing in places}
    placed = [(place[1], place[2], thing) for thing, place in places.items() if place is not None]
    for row in sorted(placed):
        thing = row[2]
        parts[places[thing][0]].append(thing)
    return parts


def _ending(state, thing):
    """What is below the thing, each one behind what is below it, and the thing last."""
    ended = []
    for part in state.under(thing):
        ended.extend(_ending(state, part))
    ended.append(thing)
    return ended
