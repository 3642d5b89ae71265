"""Hands, times, stamps, kinds, bodies and deeds."""

from sharedscopes.basics import is_from, is_tuple_of
from sharedscopes.errors import NoDeed, NoHand

ROOT = (0, 0)

MOST_TIME = 999

_HOLDERS = ("block", "let", "sum", "product")

_MARKS = ("undo", "redo")

_LETTERS = "abcdefghijklmnopqrstuvwxyz"


def is_name(value):
    """Whether any value is a name: one to four small letters."""
    if not isinstance(value, str) or not 1 <= len(value) <= 4:
        return False
    return all([sign in _LETTERS for sign in value])


def is_stamp(value):
    """Whether any value is a stamp: a pair (time, hand)."""
    return is_tuple_of(value, 2) and is_from(value[0], 1, MOST_TIME) and is_from(value[1], 0, 3)


def is_thing(value):
    """Whether any value is a stamp or the root."""
    return is_stamp(value) or (is_tuple_of(value, 2) and is_from(value[0], 0, 0) and is_from(value[1], 0, 0))


def is_body(value):
    """Whether any value is a body."""
    if not isinstance(value, tuple) or not value or not isinstance(value[0], str):
        return False
    word = value[0]
    if word == "make":
        return len(value) == 5 and _can_make(value)
    if word == "move":
        return len(value) == 4 and is_thing(value[1]) and is_thing(value[2]) and _is_key(value[3])
    if word == "drop":
        return len(value) == 2 and is_thing(value[1])
    if word in _MARKS:
        return len(value) == 2 and is_stamp(value[1])
    return len(value) == 3 and is_thing(value[1]) and _can_write(word, value[2])


def is_deed(value):
    """Whether any value is a deed, taken by itself."""
    return is_tuple_of(value, 3) and is_stamp(value[0]) and _is_seen(value[1], value[0][0]) and is_body(value[2])


def is_mark(deed):
    """Whether the deed is an undo or a redo."""
    check_deed(deed)
    return does_mark(deed[2])


def named_by(deed):
    """The stamps that the deed's body names, each once, ascending, without the root."""
    check_deed(deed)
    return names_in(deed[2])


def time_seen(deed, hand):
    """Up to which time the deed has seen the hand."""
    check_deed(deed)
    check_hand(hand)
    return deed[1][hand]


def does_hold(kind):
    """Whether any value is a kind that holds others."""
    return isinstance(kind, str) and kind in _HOLDERS


def check_deed(deed):
    """Refuse what is no deed."""
    if not is_deed(deed):
        raise NoDeed(deed)


def check_hand(hand):
    """Refuse what is no hand."""
    if not is_from(hand, 0, 3):
        raise NoHand(hand)


def does_mark(body):
    """Whether the body is an undo or a redo."""
    return body[0] in _MARKS


def names_in(body):
    """The stamps that the body names, each once, ascending, without the root."""
    return sorted({thing for thing in _named_things(body) if thing is not None and thing != ROOT})


def thing_of(body):
    """What an ordinary body names as its thing, None of a make."""
    return None if body[0] == "make" else body[1]


def under_of(body):
    """What the body names as under, None of all but makes and moves."""
    return body[2] if body[0] in ("make", "move") else None


def placed_by(deed):
    """The thing whose place the deed is about, None of all but makes, moves and drops."""
    if deed[2][0] == "make":
        return deed[0]
    return deed[2][1] if deed[2][0] in ("move", "drop") else None


def has_seen_stamp(deed, stamp):
    """Whether the deed has seen the deed of this stamp."""
    return stamp[0] <= deed[1][stamp[1]]


def _can_make(body):
    """Whether the five items that begin with "make" are a body."""
    return is_thing(body[2]) and _is_key(body[3]) and _can_hold(body[1], body[4])


def _can_hold(kind, content):
    """Whether any first value is a kind, and any second one a content of it."""
    if not isinstance(kind, str):
        return False
    if kind == "let":
        return is_name(content)
    if kind == "use":
        return _is_binder(content)
    if kind == "number":
        return _is_value(content)
    return kind in _HOLDERS and content is None


def _can_write(word, content):
    """Whether any text is a word that writes a content, and any value such a content."""
    if word == "wish":
        return is_name(content)
    if word == "point":
        return _is_binder(content)
    return word == "set" and _is_value(content)


def _is_key(value):
    return is_from(value, 0, 999)


def _is_value(value):
    return is_from(value, 0, 99)


def _is_binder(value):
    return value is None or is_thing(value)


def _is_seen(value, time):
    """Whether any value is what a deed of this time can have seen."""
    return is_tuple_of(value, 4) and all([is_from(entry, 0, time - 1) for entry in value])


def _named_things(body):
    """The stamps, roots and None that stand in the body."""
    if body[0] == "make":
        return [body[2], body[4]] if body[1] == "use" else [body[2]]
    return [body[1], body[2]] if body[0] in ("move", "point") else [body[1]]
