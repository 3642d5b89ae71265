"""Papers that show that no gap keeps more demands of a thing than a given one."""

from sharedscopes.basics import is_like, is_tuple_of
from sharedscopes.deeds import is_stamp
from sharedscopes.errors import NoThing
from sharedscopes.rests import rest_of


def at_odds(state, thing, one, other):
    """Whether no gap keeps both of two demands of the thing."""
    rest = rest_of(state, thing)
    for use in (one, other):
        if not _is_demand(rest, use):
            raise NoThing(use)
    return _are_at_odds(_keepers(rest), one, other)


def gap_paper(state, thing):
    """The told paper: the first best gap, and as many groups of demands at odds as it keeps demands."""
    rest = rest_of(state, thing)
    keepers = _keepers(rest)
    groups = []
    for use in _told_order(rest):
        fitting = [group for group in groups if all([_are_at_odds(keepers, use, other) for other in group])]
        if fitting:
            fitting[0].append(use)
        else:
            groups.append([use])
    kept = [len(rest.kept_at(gap)) for gap in rest.gaps]
    best = rest.gaps[kept.index(max(kept))]
    return ("gap", best, tuple(sorted([tuple(sorted(group)) for group in groups])))


def accepts_gap(state, thing, value):
    """Whether any value is a right paper of the thing."""
    rest = rest_of(state, thing)
    if not is_tuple_of(value, 3) or not is_like(value[0], "gap") or not rest.has_gap(value[1]):
        return False
    groups = value[2]
    if not isinstance(groups, tuple) or len(groups) != len(rest.kept_at(value[1])):
        return False
    if not all([_is_group(rest, group) for group in groups]) or list(groups) != sorted(groups):
        return False
    uses = [use for group in groups for use in group]
    if sorted(uses) != list(rest.demands):
        return False
    keepers = _keepers(rest)
    return all([_are_all_at_odds(keepers, group) for group in groups])


def _is_demand(rest, value):
    """Whether any value is a demand of the rest's thing."""
    return is_stamp(value) and value in rest.demands


def _is_group(rest, value):
    """Whether any value is a tuple, not empty, of demands, ascending."""
    if not isinstance(value, tuple) or not value or not all([_is_demand(rest, use) for use in value]):
        return False
    return all([one < other for one, other in zip(value, value[1:])])


def _keepers(rest):
    """The dict from the demands to the gaps that keep them."""
    keepers = {use: [] for use in rest.demands}
    for gap in rest.gaps:
        for use in rest.kept_at(gap):
            keepers[use].append(gap)
    return keepers


def _are_at_odds(keepers, one, other):
    """Whether no gap keeps both demands."""
    return not any([gap in keepers[other] for gap in keepers[one]])


def _are_all_at_odds(keepers, group):
    """Whether any two demands of the group are at odds."""
    return all([one == other or _are_at_odds(keepers, one, other) for one in group for other in group])


def _told_order(rest):
    """The demands in the order in which the told groups take them."""
    order = []
    for use, let in rest.demands.items():
        # None is not ordered beside lets, so their rank stands in a tuple that is empty for the uses of the rest.
        rank = () if let is None else (len(rest.tree.visible(let)), let)
        order.append((rank, use))
    return [use for _, use in sorted(order)]
