"""What hangs on a deed: who would lose what by an undo, and what awaits a redo."""

from sharedscopes.basics import is_like, is_tuple_of
from sharedscopes.books import are_stamps, check_among, check_book, check_stamp, makes_named
from sharedscopes.courses import course_by
from sharedscopes.deeds import does_mark
from sharedscopes.errors import NoStamp
from sharedscopes.marks import living


def needs_of(book, stamp):
    """The makes of what an ordinary deed names as its thing and as its under, ascending."""
    check_book(book)
    check_stamp(book, stamp)
    if does_mark(book[stamp][2]):
        raise NoStamp(stamp)
    return sorted(set(makes_named(book, stamp)))


def hangers_of(book, stamps):
    """The alive deeds that undoing these would make gone, ascending."""
    _check_alive(book, stamps)
    return _hangers(book, stamps)


def hurt_hands(book, stamps):
    """The hands of the hangers that have none of the deeds themselves, ascending."""
    _check_alive(book, stamps)
    own = [hand for _, hand in stamps]
    return sorted({hand for _, hand in _hangers(book, stamps) if hand not in own})


def clean_set(book, stamps):
    """The deeds with their hangers, ascending: the least set with these that has no hangers."""
    _check_alive(book, stamps)
    return sorted(list(stamps) + _hangers(book, stamps))


def awaiting_of(book, stamp):
    """The alive deeds that are gone, and would not be, were this deed alive, ascending."""
    check_book(book)
    check_stamp(book, stamp)
    alive = living(book, ())
    if does_mark(book[stamp][2]) or stamp in alive:
        raise NoStamp(stamp)
    found = _found(book, sorted(alive + [stamp]))
    standing = _found(book, alive)
    return [other for other in alive if other in found and other not in standing]


def hanger_paper(book, stamps, hanger):
    """The told row of needs from the hanger to one of the deeds, None of what is no hanger of these."""
    _check_alive(book, stamps)
    check_stamp(book, hanger)
    if hanger not in _hangers(book, stamps):
        return None
    leading = _hanging(book, stamps) + list(stamps)
    row = [hanger]
    while row[-1] not in stamps:
        row.append([need for need in makes_named(book, row[-1]) if need in leading][0])
    return ("hanger", tuple(row))


def accepts_hanger(book, stamps, value):
    """Whether any value is a right paper of a hanger of these deeds."""
    _check_alive(book, stamps)
    if not is_tuple_of(value, 2) or not is_like(value[0], "hanger") or not are_stamps(book, value[1]):
        return False
    row = value[1]
    standing = _found(book, living(book, ()))
    if row[0] in stamps or row[-1] not in stamps or not all([stamp in standing for stamp in row]):
        return False
    return all([need in makes_named(book, stamp) for stamp, need in zip(row, row[1:])])


def _check_alive(book, stamps):
    """Refuse what is no Book, then what is no list or tuple of unlike stamps of alive ordinary deeds."""
    check_book(book)
    check_among(stamps, living(book, ()))


def _found(book, stamps):
    """Those of the ordinary deeds, by stamps, that are not gone if just these are done."""
    return [stamp for stamp, outcome, _ in course_by(book, stamps).rows if outcome != "gone"]


def _hanging(book, stamps):
    """The ordinary deeds that have one of these among their roots, ascending."""
    given = set(stamps)
    hanging = set()
    # A deed has seen its needs, so their roots are known ahead of its own.
    for stamp in book:
        if not does_mark(book[stamp][2]):
            needs = makes_named(book, stamp)
            if any([need in given or need in hanging for need in needs]):
                hanging.add(stamp)
    return sorted(hanging)


def _hangers(book, stamps):
    """The hangers of alive ordinary deeds, ascending."""
    standing = _found(book, living(book, ()))
    return [stamp for stamp in _hanging(book, stamps) if stamp in standing and stamp not in stamps]
