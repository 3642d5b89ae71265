"""The lots of lets of which no two meet, and that have the most weight."""

from sharedscopes.basics import is_from, is_like, is_listing, is_number, is_tuple_of
from sharedscopes.deeds import is_stamp
from sharedscopes.errors import NoThing, NoThings, NoWeights
from sharedscopes.states import check_state
from sharedscopes.webs import Web

_MOST_WEIGHT = 99


def most_paper(state, lets, weights=None):
    """The told paper of the class: a clear lot of the most weight, and the numbers that show that it is the most."""
    _check_lets(state, lets)
    taken, numbers = told_lot(Web(state), lets, weights_of(state, weights))
    return ("most", tuple(taken), numbers)


def accepts_most(state, lets, value, weights=None):
    """Whether any value is a right paper of the class."""
    _check_lets(state, lets)
    weighed = weights_of(state, weights)
    if not is_tuple_of(value, 3) or not is_like(value[0], "most"):
        return False
    taken, numbers = value[1:]
    web = Web(state)
    if not _is_lot(web, lets, taken) or not _are_numbers(web, numbers):
        return False
    for let in lets:
        if sum([numbers[point] for point in web.live[let] if point in numbers]) < weighed[let]:
            return False
    return sum(list(numbers.values())) == sum([weighed[let] for let in taken])


def how_taken(state, lets, let, weights=None):
    """Whether the let is in the clear lots of most weight: "always", "some" or "never"."""
    most, with_it, without = _ways(state, lets, let, weights)
    if with_it < most:
        return "never"
    return "some" if without == most else "always"


def least_weight(state, lets, let, weights=None):
    """The least weight from 1 with which the let would be in some clear lot of most weight."""
    _, with_it, without = _ways(state, lets, let, weights)
    others = with_it - weights_of(state, weights)[let]
    return max(1, without - others)


def told_lot(web, lets, weights):
    """The told clear lot of the most weight, ascending, and the dict of its numbers, ascending."""
    numbers = {}
    for let in web.ranked[::-1]:
        if let in lets:
            given = sum([numbers[point] for point in web.live[let] if point in numbers])
            if given < weights[let]:
                numbers[let] = weights[let] - given
    taken = []
    for let in web.ranked:
        if let in numbers and not any([web.do_meet(let, other) for other in taken]):
            taken.append(let)
    return sorted(taken), {let: numbers[let] for let in sorted(numbers)}


def weights_of(state, weights):
    """The dict from all lets that are in to their weights; refuses what is neither None nor a dict of weights."""
    lets = Web(state).tree.lets
    if weights is None:
        return {let: 1 for let in lets}
    if not isinstance(weights, dict):
        raise NoWeights(weights)
    for let, weight in weights.items():
        if not is_stamp(let) or let not in lets or not is_from(weight, 1, _MOST_WEIGHT):
            raise NoWeights(weights)
    return {let: weights.get(let, 1) for let in lets}


def _check_lets(state, lets):
    """Refuse what is no state, then what is no list or tuple of unlike lets that are in."""
    check_state(state)
    if not is_listing(lets):
        raise NoThings(None)
    known = Web(state).tree.lets
    for at, let in enumerate(lets):
        if not is_stamp(let) or let not in known or let in lets[:at]:
            raise NoThings(at)


def _ways(state, lets, let, weights):
    """The most weight of a clear lot, of one with the let, and of one without it."""
    _check_lets(state, lets)
    if not is_stamp(let) or let not in lets:
        raise NoThing(let)
    weighed = weights_of(state, weights)
    web = Web(state)
    others = [other for other in lets if other != let]
    apart = [other for other in others if not web.do_meet(let, other)]
    with_it = weighed[let] + _weight(web, apart, weighed)
    without = _weight(web, others, weighed)
    return max(with_it, without), with_it, without


def _weight(web, lets, weights):
    """The most weight of a clear lot of the lets."""
    taken, _ = told_lot(web, lets, weights)
    return sum([weights[let] for let in taken])


def _is_lot(web, lets, value):
    """Whether any value is an ascending tuple of some of the lets, of which no two meet."""
    if not isinstance(value, tuple) or not all([is_stamp(let) and let in lets for let in value]):
        return False
    for at, let in enumerate(value):
        if at > 0 and let <= value[at - 1]:
            return False
        if any([web.do_meet(let, other) for other in value[:at]]):
            return False
    return True


def _are_numbers(web, value):
    """Whether any value is a dict from lets that are in to numbers above 0."""
    if not isinstance(value, dict):
        return False
    for let, number in value.items():
        if not is_stamp(let) or let not in web.live or not is_number(number) or number <= 0:
            return False
    return True
