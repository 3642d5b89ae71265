"""Becoming: the fewest bodies by which one program becomes another, what is kept of it being told by pairs."""

from sharedscopes.basics import is_listing
from sharedscopes.books import check_book, check_room
from sharedscopes.branches import all_of
from sharedscopes.deeds import ROOT, check_hand, does_mark, is_body
from sharedscopes.errors import NoBody, TooMany
from sharedscopes.plans import Plan
from sharedscopes.reading import read_shape
from sharedscopes.states import State
from sharedscopes.targets import Target, kept_by
from sharedscopes.writing import shape_of

_MOST_SMALL = 5


def told_pairs(book, text):
    """The told pairs: from above down a longest common row of kinds under each pair, ascending."""
    check_book(book)
    target = Target(text)
    state = State(book)
    pairs = []
    waiting = [(ROOT, ())]
    while waiting:
        thing, path = waiting.pop()
        found = _common(state, target, state.under(thing), target.parts[path])
        pairs.extend(found)
        waiting.extend(found)
    return tuple(sorted(pairs))


def least_number(book, text, pairs):
    """The least number of bodies that become the target by the pairs."""
    check_book(book)
    target = Target(text)
    state = State(book)
    return Plan(state, target, kept_by(state, target, pairs)).total()


def bodies_for(book, hand, text, pairs):
    """A list of so few bodies, followed by the hand, that become the target by the pairs."""
    check_book(book)
    check_hand(hand)
    target = Target(text)
    state = State(book)
    plan = Plan(state, target, kept_by(state, target, pairs))
    first = max(all_of(book)) + 1
    check_room(len(book), first, plan.total())
    return plan.bodies(first, hand)


def does_become(book, hand, text, pairs, value):
    """Whether any value is a list or tuple of bodies that, followed by the hand, become the target by the pairs."""
    check_book(book)
    check_hand(hand)
    target = Target(text)
    kept = kept_by(State(book), target, pairs)
    if not is_listing(value) or not all([is_body(body) and not does_mark(body) for body in value]):
        return False
    try:
        state = State(book.followed(hand, value))
    except (NoBody, TooMany):
        return False
    return shape_of(state) == read_shape(text) and _are_right(book, state, target, kept)


def least_of_all(book, text):
    """The pair of the least number of bodies by any pairs, and the fewest, and then least, of the pairs with it."""
    check_book(book)
    target = Target(text)
    state = State(book)
    things = sorted([thing for thing in state.line() if thing != ROOT])
    if len(things) > _MOST_SMALL or len(target.kinds) - 1 > _MOST_SMALL:
        raise TooMany(_MOST_SMALL)
    rows = []
    for pairs in _all_pairs(state, target, things):
        rows.append((Plan(state, target, kept_by(state, target, pairs)).total(), len(pairs), pairs))
    number, _, pairs = min(rows)
    return number, pairs


def _common(state, target, things, items):
    """The pairs of a longest common row of kinds: the one with the least places of things, then of items."""
    longest = _longest_rows([state.kind(thing) for thing in things], [target.kinds[item] for item in items])
    pairs = []
    behind = 0
    for at, thing in enumerate(things):
        wanted = [place for place in range(behind, len(items)) if target.kinds[items[place]] == state.kind(thing)]
        # The first item that fits leaves the most behind it, so the others need not be looked at.
        if wanted and longest[at + 1][wanted[0] + 1] + 1 == longest[at][behind]:
            pairs.append((thing, items[wanted[0]]))
            behind = wanted[0] + 1
    return pairs


def _longest_rows(ones, others):
    """For each place in either list how long the longest common row is that begins there or behind."""
    longest = [[0] * (len(others) + 1)]
    for one in ones[::-1]:
        below = longest[-1]
        row = [0]
        for place in range(len(others) - 1, -1, -1):
            length = below[place + 1] + 1 if others[place] == one else max(below[place], row[-1])
            row.append(length)
        longest.append(row[::-1])
    return longest[::-1]


def _all_pairs(state, target, things):
    """All pairs of these things with items, each told ascending."""
    found = [()]
    for thing in things:
        longer = []
        for pairs in found:
            taken = [path for _, path in pairs]
            for path in list(target.kinds)[1:]:
                if target.kinds[path] == state.kind(thing) and path not in taken:
                    longer.append((*pairs, (thing, path)))
        found = found + longer
    return found


def _are_right(book, state, target, kept):
    """Whether a state of the target's shape has its wishes, the kept things at their items, and else new things."""
    things = _things_by_path(state)
    for path, thing in things.items():
        if target.kinds[path] == "let" and state.content(thing) != target.contents[path]:
            return False
        if thing not in kept and thing in book:
            return False
    return all([things[path] == thing for thing, path in kept.items()])


def _things_by_path(state):
    """The dict from the paths of all that is in to the things, as they begin."""
    paths = {ROOT: ()}
    for thing in state.line():
        for place, part in enumerate(state.under(thing)):
            paths[part] = paths[thing] + (place,)
    return {path: thing for thing, path in paths.items()}
