"""Undo and redo: which deeds are alive, and what each hand can take back."""

from sharedscopes.books import check_book, check_stamp, check_stamps
from sharedscopes.branches import check_branch, part_of
from sharedscopes.deeds import check_hand, does_mark


def does_count(book, stamp):
    """Whether the deed is a mark that names an ordinary deed of its own hand."""
    check_book(book)
    check_stamp(book, stamp)
    return _counts(book, stamp)


def does_turn(book, stamp):
    """Whether the deed is a mark that counts, and turns its deed."""
    check_book(book)
    check_stamp(book, stamp)
    if not _counts(book, stamp):
        return False
    return stamp in _turning(mark_table(book, ())[book[stamp][2][1]])


def alive_deeds(book):
    """The stamps of the alive deeds, ascending."""
    check_book(book)
    return living(book, ())


def alive_without(book, stamps):
    """The other stamps that are alive as if these deeds were not there, ascending."""
    check_book(book)
    check_stamps(book, stamps)
    return living(book, stamps)


def line_of(book, hand):
    """The pair of the hand's deeds that it can undo, and of those that it can redo."""
    check_book(book)
    check_hand(hand)
    own = {stamp: marks for stamp, marks in mark_table(book, ()).items() if stamp[1] == hand}
    since = {stamp: max([stamp] + _turning(marks)) for stamp, marks in own.items()}
    done = sorted([(since[stamp], stamp) for stamp in own if is_living(own[stamp])])
    undone = [(since[stamp], stamp) for stamp in own if not is_living(own[stamp]) and since[stamp] > max(own)]
    undone = sorted(undone, reverse=True)
    return tuple([stamp for _, stamp in done]), tuple([stamp for _, stamp in undone])


def next_undo(book, hand):
    """The stamp of the deed that the hand's undo takes back, or None."""
    done, _ = line_of(book, hand)
    return done[-1] if done else None


def next_redo(book, hand):
    """The stamp of the deed that the hand's redo brings back, or None."""
    _, undone = line_of(book, hand)
    return undone[0] if undone else None


def marks_to(book, branch):
    """The pairs (word, stamp) of the marks that make just the branch's deeds alive, by stamps."""
    check_branch(book, branch)
    now = living(book, ())
    then = living(part_of(book, branch), ())
    undone = [(stamp, "undo") for stamp in now if stamp not in then]
    redone = [(stamp, "redo") for stamp in then if stamp not in now]
    return [(word, stamp) for stamp, word in sorted(undone + redone)]


def marks_of(book, branch, hand):
    """Those of the marks to the branch that are of deeds of this hand."""
    marks = marks_to(book, branch)
    check_hand(hand)
    return [(word, stamp) for word, stamp in marks if stamp[1] == hand]


def mark_table(book, without):
    """The dict from the ordinary deeds, ascending, to the pairs (mark, word) of the marks that count for each.

    Deeds and marks that are among without are left out.
    """
    left = set(without)
    table = {stamp: [] for stamp in book if not does_mark(book[stamp][2]) and stamp not in left}
    for stamp in book:
        word = book[stamp][2][0]
        named = book[stamp][2][1]
        if stamp not in left and _counts(book, stamp) and named in table:
            table[named].append((stamp, word))
    return table


def is_living(marks):
    """Whether a deed with these marks, by stamps, is alive."""
    return not marks or marks[-1][1] == "redo"


def living(book, without):
    """The alive stamps as if these deeds were not there, ascending."""
    return [stamp for stamp, marks in mark_table(book, without).items() if is_living(marks)]


def _counts(book, stamp):
    """Whether the deed is a mark that counts."""
    body = book[stamp][2]
    return does_mark(body) and body[1][1] == stamp[1] and not does_mark(book[body[1]][2])


def _turning(marks):
    """The stamps of those of a deed's marks that turn it."""
    words = ["redo"] + [word for _, word in marks]
    return [mark for (mark, word), ahead in zip(marks, words) if word != ahead]
