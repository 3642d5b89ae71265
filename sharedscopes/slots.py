"""Slots: what deeds write to, and where they clash."""

from sharedscopes.basics import is_tuple_of
from sharedscopes.books import check_book
from sharedscopes.deeds import check_deed, does_mark, has_seen_stamp, is_thing, placed_by
from sharedscopes.errors import NoSlot
from sharedscopes.plays import play_of

_WORDS = ("place", "wish", "point", "set")


def slot_of(deed):
    """The pair (word, thing) to which the deed writes, None of a mark."""
    check_deed(deed)
    if does_mark(deed[2]):
        return None
    placed = placed_by(deed)
    return (deed[2][0], deed[2][1]) if placed is None else ("place", placed)


def writes_of(deed):
    """What the deed writes to its slot, None of a mark and of a drop."""
    check_deed(deed)
    word = deed[2][0]
    if word in ("make", "move"):
        return (deed[2][2], deed[2][3])
    return None if does_mark(deed[2]) or word == "drop" else deed[2][2]


def done_of(book, slot):
    """The stamps of the slot's done deeds, ascending."""
    check_book(book)
    _check_slot(book, slot)
    return done_by_slot(book, play_of(book)).get(slot, [])


def rivals_of(book, slot):
    """The slot's done deeds that no other done deed of it has seen, ascending."""
    return _rivals(book, done_of(book, slot))


def is_open(book, slot):
    """Whether the slot has more than one rival."""
    return len(rivals_of(book, slot)) > 1


def open_slots(book):
    """The open slots, in order."""
    return [slot for slot, _ in _open_rivals(book)]


def clashes_now(book):
    """The pairs (slot, rivals) of the open slots of which two rivals write unlike things, in order."""
    return [(slot, rivals) for slot, rivals in _open_rivals(book) if _do_clash(book, rivals)]


def clashes(book):
    """The pairs of an overruled deed and its next one, if they write unlike things, by stamps."""
    pairs = []
    for done in done_by_slot(book, play_of(book)).values():
        pairs.extend([pair for pair in zip(done, done[1:]) if not has_seen_stamp(book[pair[1]], pair[0])])
    return sorted([pair for pair in pairs if _do_clash(book, pair)])


def done_by_slot(book, rows):
    """The dict from slots to the stamps of their deeds that are done in these rows of a play, ascending."""
    slots = {}
    for stamp, outcome, _ in rows:
        if outcome == "done":
            slots.setdefault(slot_of(book[stamp]), []).append(stamp)
    return slots


def _check_slot(book, slot):
    """Refuse what is the slot of no deed of the book."""
    if not is_tuple_of(slot, 2) or not isinstance(slot[0], str) or not is_thing(slot[1]):
        raise NoSlot(slot)
    if slot not in [slot_of(deed) for deed in book.deeds()]:
        raise NoSlot(slot)


def _rivals(book, done):
    """Those of the deeds that none of the others has seen."""
    return [stamp for stamp in done if not any([has_seen_stamp(book[other], stamp) for other in done])]


def _open_rivals(book):
    """The pairs (slot, rivals) of the open slots, in order."""
    rows = []
    for slot, done in done_by_slot(book, play_of(book)).items():
        rivals = _rivals(book, done)
        if len(rivals) > 1:
            rows.append((slot, rivals))
    return sorted(rows, key=_slot_order)


def _slot_order(row):
    """By what the slot of such a row is ordered."""
    word, thing = row[0]
    return _WORDS.index(word), thing


def _do_clash(book, stamps):
    """Whether two of the deeds write unlike things."""
    first = writes_of(book[stamps[0]])
    return any([writes_of(book[stamp]) != first for stamp in stamps])
