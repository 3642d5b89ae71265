"""Deeds that come late: what they turn, and what they never can."""

from sharedscopes.basics import is_like, is_tuple_of
from sharedscopes.books import check_book, check_stamp
from sharedscopes.deeds import placed_by, under_of
from sharedscopes.errors import NoBook, NoChange, NoStamp, NotClosed, TooMany, Unseen
from sharedscopes.plays import play_of, row_of


def is_change(book, value):
    """Whether any value is a change of the book."""
    check_book(book)
    if not is_tuple_of(value, 2):
        return False
    if is_like(value[0], "in"):
        return _can_come(book, value[1])
    return is_like(value[0], "out") and value[1] in book


def changed_rows(book, change):
    """The triple of the lists of what is plain again, again, and turned by the change."""
    if not is_change(book, change):
        raise NoChange(change)
    ahead = {row[0]: row for row in play_of(book)}
    behind = {row[0]: row for row in _changed_play(book, change)}
    both = [stamp for stamp in ahead if stamp in behind]
    again = [stamp for stamp in both if ahead[stamp] != behind[stamp]]
    turned = [(stamp, ahead[stamp][1], behind[stamp][1]) for stamp in both if ahead[stamp][1] != behind[stamp][1]]
    single = [stamp for stamp in ahead if stamp not in behind] + [stamp for stamp in behind if stamp not in ahead]
    plain = [stamp for stamp in both if single and stamp > min(single)]
    return plain, again, turned


def ways_out(book, stamp):
    """The stamps on the ring's chain without which, each alone, the move is done, ascending."""
    row = row_of(book, stamp)
    if row is None or row[1] != "ring":
        raise NoStamp(stamp)
    placers = sorted([placer for _, placer in row[2] if placer is not None])
    return [placer for placer in placers if _is_done_without(book, stamp, placer)]


def is_safe(book, stamp):
    """Whether the move is a ring in no play, whatever is undone or comes late."""
    check_book(book)
    check_stamp(book, stamp)
    if book[stamp][2][0] != "move":
        raise NoStamp(stamp)
    _, thing, under, _ = book[stamp][2]
    return thing not in _reached(_steps(book), under)


def front_of(book):
    """The least of the pairs (time of the hand's last deed, hand)."""
    check_book(book)
    return min([(book.last(hand), hand) for hand in range(4)])


def settled_rows(book):
    """The rows of the play up to the front."""
    front = front_of(book)
    return [row for row in play_of(book) if row[0] <= front]


def _can_come(book, value):
    """Whether any value is a deed with which the book is a book."""
    try:
        book.with_deeds([value])
    except (NoBook, NotClosed, TooMany, Unseen):
        return False
    return True


def _changed_play(book, change):
    """The play behind the change."""
    word, what = change
    return play_of(book.with_deeds([what])) if word == "in" else play_of(book, [what])


def _is_done_without(book, stamp, other):
    """Whether the deed is done as if the other one were not there."""
    return "done" in [outcome for place, outcome, _ in play_of(book, [other]) if place == stamp]


def _steps(book):
    """The dict from what any make or move makes or moves, to all that it is made or moved under."""
    steps = {}
    for deed in book.deeds():
        under = under_of(deed[2])
        if under is not None:
            steps.setdefault(placed_by(deed), []).append(under)
    return steps


def _reached(steps, thing):
    """The thing, and all to which a row of steps leads from it."""
    reached = [thing]
    known = set(reached)
    while reached:
        at = reached.pop()
        for under in steps.get(at, []):
            if under not in known:
                known.add(under)
                reached.append(under)
    return sorted(known)
