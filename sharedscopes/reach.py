"""Reach: what is unlike with and without a deed, and which deeds a broken program is whole without."""

from sharedscopes.books import check_among, check_book, check_stamp
from sharedscopes.deeds import does_mark, is_stamp
from sharedscopes.errors import NoMenu
from sharedscopes.fates import fates_of
from sharedscopes.namings import told_naming
from sharedscopes.scopes import lost_uses, told_use
from sharedscopes.states import State
from sharedscopes.values import values_of

_MOST_STAMPS = 8


def reach_of(book, stamp):
    """The dict from the seven words to the lists of what is unlike with and without the deed."""
    check_book(book)
    check_stamp(book, stamp)
    one = State(book)
    other = State(book, [stamp])
    return {
        "places": _unlike(_places(one), _places(other)),
        "contents": _changed(_contents(one), _contents(other)),
        "in": _unlike(_line(one), _line(other)),
        "uses": _unlike(_told_uses(one), _told_uses(other)),
        "names": _unlike(told_naming(one), told_naming(other)),
        "values": _changed(values_of(one), values_of(other)),
        "fates": _changed(fates_of(book), fates_of(book, [stamp])),
    }


def does_heal(book, stamps):
    """Whether without these ordinary deeds no use is lost, and no deed gone or a ring."""
    check_book(book)
    check_among(stamps, _ordinary(book))
    return _do_heal(book, stamps)


def healing_sets(book, menu):
    """The tuples of stamps of the menu that heal, and of which no proper part does, by size, then ascending."""
    check_book(book)
    if not _is_menu(book, menu):
        raise NoMenu(menu)
    found = []
    for _, stamps in sorted([(len(part), part) for part in _parts(menu)]):
        if not any([_has_all(stamps, part) for part in found]) and _do_heal(book, stamps):
            found.append(stamps)
    return found


def _unlike(one, other):
    """What stands in one dict only, or in both with unlike values, ascending."""
    single = [thing for thing in one if thing not in other] + [thing for thing in other if thing not in one]
    return sorted(single + _changed(one, other))


def _changed(one, other):
    """What stands in both dicts, with unlike values, ascending."""
    return sorted([thing for thing in one if thing in other and one[thing] != other[thing]])


def _places(state):
    """The dict from what is there to its places."""
    return {thing: state.place(thing) for thing in state.things()}


def _contents(state):
    """The dict from what is there to its contents."""
    return {thing: state.content(thing) for thing in state.things()}


def _line(state):
    """The dict from what is in to True."""
    return {thing: True for thing in state.line()}


def _told_uses(state):
    """The dict from the uses that are in to what is told of them."""
    return {thing: told_use(state, thing) for thing in state.line() if state.kind(thing) == "use"}


def _ordinary(book):
    """The stamps of the ordinary deeds, ascending."""
    return [stamp for stamp in book if not does_mark(book[stamp][2])]


def _do_heal(book, stamps):
    """Whether these deeds of the book heal."""
    if lost_uses(State(book, stamps)):
        return False
    return not any([fate[0] in ("gone", "ring") for fate in fates_of(book, stamps).values()])


def _is_menu(book, value):
    """Whether any value is an ascending tuple of one to eight stamps of ordinary deeds of the book."""
    if not isinstance(value, tuple) or not 1 <= len(value) <= _MOST_STAMPS:
        return False
    ordinary = _ordinary(book)
    if not all([is_stamp(stamp) and stamp in ordinary for stamp in value]):
        return False
    return all([one < other for one, other in zip(value, value[1:])])


def _parts(menu):
    """All tuples of stamps of the menu that stand in its order."""
    parts = [()]
    for stamp in menu:
        parts = parts + [(*part, stamp) for part in parts]
    return parts


def _has_all(stamps, wanted):
    """Whether all the wanted ones are among the stamps."""
    return all([stamp in stamps for stamp in wanted])
