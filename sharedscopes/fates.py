"""Fates: what has become of each ordinary deed, and papers that show why some are gone."""

from sharedscopes.basics import is_like, is_tuple_of
from sharedscopes.books import (are_stamps, check_book, check_stamp, check_stamps, makes_named, stand_apart,
                                things_named)
from sharedscopes.courses import course_of
from sharedscopes.deeds import does_mark, has_seen_stamp
from sharedscopes.errors import NoStamp
from sharedscopes.marks import is_living, mark_table
from sharedscopes.slots import done_by_slot


def fate_of(book, stamp):
    """The fate of an ordinary deed."""
    check_book(book)
    check_stamp(book, stamp)
    if does_mark(book[stamp][2]):
        raise NoStamp(stamp)
    return fates_of(book)[stamp]


def fates_of(book, without=()):
    """The dict from the ordinary deeds, ascending, to their fates, as if these deeds were not there."""
    check_book(book)
    check_stamps(book, without)
    rows = course_of(book, without).rows
    fates = {row[0]: _fate_of_row(book, row) for row in rows}
    for done in done_by_slot(book, rows).values():
        for stamp, behind in zip(done, done[1:]):
            fates[stamp] = ("replaced" if has_seen_stamp(book[behind], stamp) else "overruled", behind)
    told = {}
    for stamp, marks in mark_table(book, without).items():
        told[stamp] = fates[stamp] if is_living(marks) else ("undone", marks[-1][0])
    return told


def gone_paper(book, stamp):
    """The told paper of a gone deed, None of all other deeds."""
    check_book(book)
    check_stamp(book, stamp)
    course = course_of(book, ())
    if stamp not in [gone for gone, outcome, _ in course.rows if outcome == "gone"]:
        return None
    alive = [row[0] for row in course.rows]
    stamps = [stamp]
    missing = _missing(book, course, stamp)
    while missing:
        stamps.append(missing[0])
        missing = _missing(book, course, missing[0]) if missing[0] in alive else []
    return ("gone", tuple(stamps))


def accepts_gone(book, value):
    """Whether any value is a right paper of a gone deed."""
    check_book(book)
    if not is_tuple_of(value, 2) or not is_like(value[0], "gone") or not are_stamps(book, value[1]):
        return False
    stamps = value[1]
    course = course_of(book, ())
    alive = [row[0] for row in course.rows]
    if stamps[0] not in alive or not all([stamp in alive for stamp in stamps[:-1]]):
        return False
    if not all([behind in _missing(book, course, stamp) for stamp, behind in zip(stamps, stamps[1:])]):
        return False
    return stamps[-1] not in alive or _is_gone_by_kind(book, course, stamps[-1])


def _fate_of_row(book, row):
    """The fate of an alive deed, as if no deed of its slot were done behind it."""
    stamp, outcome, chain = row
    if outcome == "done":
        return ("stands", None)
    placers = [placer for _, placer in chain if placer is not None]
    apart = [placer for placer in placers if stand_apart(book, stamp, placer)]
    return (outcome, max(apart, default=None))


def _missing(book, course, stamp):
    """The makes that the deed names as thing and as under, and that are not there."""
    return [name for name in makes_named(book, stamp) if name not in course.kinds]


def _is_gone_by_kind(book, course, stamp):
    """Whether the deed is gone by what it is and names, and not by a make that is missing."""
    if things_named(book, stamp) != makes_named(book, stamp):
        return True
    return course.misfits(book[stamp][2])
