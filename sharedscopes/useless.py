"""Useless lets: those that can go without loss, and papers that show of each let whether it can."""

from sharedscopes.basics import is_like, is_tuple_of
from sharedscopes.deeds import is_stamp
from sharedscopes.scopes import bound_uses
from sharedscopes.states import check_kind, check_state
from sharedscopes.trees import Tree


def needed_lets(state):
    """The lets that are needed, ascending."""
    check_state(state)
    return sorted([let for let, _ in _told_pairs(Needs(state))])


def useless_lets(state):
    """The lets that are in and not needed, ascending."""
    check_state(state)
    return _useless(Needs(state))


def use_paper(state, let):
    """The told paper of the let: why it is needed, or why it is useless."""
    check_kind(state, let, "let")
    needs = Needs(state)
    pairs = _told_pairs(needs)
    lets = [needed for needed, _ in pairs]
    if let in lets:
        return ("needed", tuple(pairs[:lets.index(let) + 1]))
    return ("useless", tuple(_useless(needs)))


def accepts_use(state, let, value):
    """Whether any value is a right paper of the let, of either kind."""
    check_kind(state, let, "let")
    if not is_tuple_of(value, 2) or not isinstance(value[1], tuple):
        return False
    needs = Needs(state)
    if is_like(value[0], "needed"):
        return _do_show_needed(needs, let, value[1])
    return is_like(value[0], "useless") and _do_show_useless(needs, let, value[1])


class Needs:
    """The lets that are in, and the bound uses, each with its binder and the lets that it is below."""

    def __init__(self, state):
        tree = Tree(state)
        self.lets = tree.lets
        self.bound = bound_uses(state, tree)
        self.around = {use: _lets_around(state, use) for use in self.bound}


def _lets_around(state, use):
    """The lets that the use is below."""
    lets = []
    at = state.holder(use)
    while at is not None:
        if state.kind(at) == "let":
            lets.append(at)
        at = state.holder(at)
    return lets


def _told_pairs(needs):
    """The pairs (let, use) of all needed lets, by rounds."""
    pairs = []
    while True:
        ahead = [let for let, _ in pairs]
        found = {}
        for use in sorted(needs.bound):
            let = needs.bound[use]
            if let not in ahead and let not in found and _has_all(ahead, needs.around[use]):
                found[let] = use
        if not found:
            return pairs
        pairs.extend([(let, found[let]) for let in sorted(found)])


def _useless(needs):
    """The lets that are in and not needed, ascending."""
    needed = [let for let, _ in _told_pairs(needs)]
    return [let for let in needs.lets if let not in needed]


def _do_show_needed(needs, let, pairs):
    """Whether the items of a tuple are pairs that show that the let is needed."""
    ahead = []
    for pair in pairs:
        if not is_tuple_of(pair, 2) or not is_stamp(pair[0]) or not is_stamp(pair[1]):
            return False
        own, use = pair
        if own in ahead or use not in needs.bound or needs.bound[use] != own:
            return False
        if not _has_all(ahead, needs.around[use]):
            return False
        ahead.append(own)
    return ahead[-1:] == [let]


def _do_show_useless(needs, let, lets):
    """Whether the items of a tuple are lets that show that the let is useless."""
    if not all([is_stamp(own) and own in needs.lets for own in lets]) or let not in lets:
        return False
    if not all([one < other for one, other in zip(lets, lets[1:])]):
        return False
    uses = [use for use, own in needs.bound.items() if own in lets]
    return all([any([own in lets for own in needs.around[use]]) for use in uses])


def _has_all(lets, wanted):
    """Whether all the wanted ones are among the lets."""
    return all([let in lets for let in wanted])
