"""Horizons: what can no longer change at a hand; and the fewest messages by which all have all."""

from sharedscopes.basics import is_from, is_listing, is_tuple_of
from sharedscopes.books import check_book, has_seen
from sharedscopes.branches import is_branch, joined_branch
from sharedscopes.errors import NoBranches, NoHands
from sharedscopes.hands import Hands


def horizon_of(hands, hand):
    """The least of the times of the hands' last deeds that the hand shows."""
    return min(_last_times(hands, hand))


def certain_deeds(hands, hand):
    """The stamps that the last shown deed of each hand has seen or is, ascending."""
    times = _last_times(hands, hand)
    if 0 in times:
        return []
    shown = hands.shown(hand)
    lasts = [(time, other) for other, time in enumerate(times)]
    return [stamp for stamp in shown if all([last == stamp or has_seen(shown, last, stamp) for last in lasts])]


def fewest_messages(book, branches):
    """The fewest messages (sender, taker) until all have all branches joined, the least of several such lists."""
    _check_branches(book, branches)
    start = tuple(branches)
    goal = _all_joined(book, start)
    found = {start: []}
    newest = [start]
    while goal not in found:
        newest = _next_round(book, found, newest)
    return found[goal]


def accepts_messages(book, branches, value):
    """Whether any value is a list of as few messages behind which all have all branches joined."""
    fewest = fewest_messages(book, branches)
    if not isinstance(value, list) or len(value) != len(fewest):
        return False
    held = tuple(branches)
    for message in value:
        if not _is_message(len(held), message):
            return False
        held = _done(book, held, message)
    return held == _all_joined(book, branches)


def _last_times(hands, hand):
    """For each of the hands the time of its last deed that the hand shows, 0 if there is none."""
    if not isinstance(hands, Hands):
        raise NoHands(hands)
    return hands.branch(hand)[:hands.many]


def _check_branches(book, branches):
    """Refuse what is no Book, then what is no list or tuple of two to four branches of it."""
    check_book(book)
    if not is_listing(branches) or not 2 <= len(branches) <= 4:
        raise NoBranches(None)
    for at, branch in enumerate(branches):
        if not is_branch(book, branch):
            raise NoBranches(at)


def _all_joined(book, branches):
    """For each of the branches all of them joined."""
    whole = branches[0]
    for branch in branches:
        whole = joined_branch(book, whole, branch)
    return tuple([whole for _ in branches])


def _next_round(book, found, newest):
    """Take in what all can hold one message behind the newest ones, with the least messages, and tell what is new."""
    fresh = []
    # The newest ones stand in the order of their messages, so what is found first has the least list.
    for held in newest:
        for message in _messages(len(held)):
            behind = _done(book, held, message)
            if behind not in found:
                found[behind] = found[held] + [message]
                fresh.append(behind)
    return fresh


def _messages(many):
    """All messages between so many hands, ascending."""
    return [(sender, taker) for sender in range(many) for taker in range(many) if sender != taker]


def _is_message(many, value):
    """Whether any value is a message between so many hands."""
    if not is_tuple_of(value, 2) or not is_from(value[0], 0, many - 1) or not is_from(value[1], 0, many - 1):
        return False
    return value[0] != value[1]


def _done(book, held, message):
    """What all hold behind the message."""
    sender, taker = message
    behind = list(held)
    behind[taker] = joined_branch(book, held[taker], held[sender])
    return tuple(behind)
