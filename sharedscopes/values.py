"""Values: what the things of a state are worth, and why some have no value."""

from sharedscopes.basics import is_like, is_tuple_of
from sharedscopes.sheets import Sheet
from sharedscopes.states import check_in, check_state


def value_of(state, thing):
    """The value of the thing, a number from 0 to 9972, or None."""
    check_in(state, thing)
    return Sheet(state).worths()[thing]


def parts_of(state, thing):
    """The things whose values make that of the thing, in order."""
    check_in(state, thing)
    return Sheet(state).parts[thing]


def does_hang(state, one, other):
    """Whether a row of parts, perhaps an empty one, leads from the first thing to the second one."""
    check_in(state, one)
    check_in(state, other)
    return other in Sheet(state).hung_on([one])


def values_of(state):
    """The dict from all things that are in, in the order of the line, to their values."""
    check_state(state)
    worths = Sheet(state).worths()
    return {thing: worths[thing] for thing in state.line()}


def causes_of(state, thing):
    """The lost uses on which the thing hangs, ascending."""
    check_in(state, thing)
    return Sheet(state).causes(thing)


def none_paper(state, thing):
    """The told row of parts from the thing to a lost use, None of a thing without causes."""
    check_in(state, thing)
    sheet = Sheet(state)
    if not sheet.causes(thing):
        return None
    row = [thing]
    while not sheet.is_lost(row[-1]):
        row.append([part for part in sheet.parts[row[-1]] if sheet.causes(part)][0])
    return ("none", tuple(row))


def accepts_none(state, thing, value):
    """Whether any value is a right paper that the thing has no value."""
    check_in(state, thing)
    if not is_tuple_of(value, 2) or not is_like(value[0], "none") or not isinstance(value[1], tuple):
        return False
    row = value[1]
    sheet = Sheet(state)
    if not row or not all([state.is_in(part) for part in row]) or row[0] != thing:
        return False
    return sheet.is_lost(row[-1]) and all([part in sheet.parts[whole] for whole, part in zip(row, row[1:])])
