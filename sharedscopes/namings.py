"""Namings that keep as many wished or old names as can be, with few numbers."""

from sharedscopes.errors import NoName, NoNaming
from sharedscopes.kept import told_lot, weights_of
from sharedscopes.meets import is_part_naming, is_right, is_written
from sharedscopes.states import check_kind, check_state
from sharedscopes.webs import Web


def told_naming(state, weights=None):
    """The naming, lets ascending, in which wishes of the most weight are kept, and the others have few numbers."""
    check_state(state)
    web = Web(state)
    wishes = {let: state.content(let) for let in web.ranked}
    naming = _kept_names(web, wishes, weights_of(state, weights))
    for let in web.ranked:
        if let not in naming:
            naming[let] = _numbered(web, naming, let, wishes[let])
    return _ascending(naming)


def fewest_names(state):
    """The pair of how many names a right naming needs, and the least point that shows it, (0, None) without lets."""
    check_state(state)
    web = Web(state)
    lives = {point: [let for let in web.ranked if point in web.live[let]] for point in web.tree.lets}
    most = max([len(lets) for lets in lives.values()], default=0)
    points = [point for point, lets in lives.items() if len(lets) == most]
    return (most, points[0] if points else None)


def plain_naming(state):
    """The naming, lets ascending, by "n" and numbers: as few as can be."""
    check_state(state)
    web = Web(state)
    naming = {}
    for let in web.ranked:
        naming[let] = _numbered(web, naming, let, "n")
    return _ascending(naming)


def mended_naming(state, old, weights=None):
    """The pair of a right naming, lets ascending, that keeps old names, and the list of the lets that lose theirs."""
    check_state(state)
    if not is_part_naming(state, old):
        raise NoNaming(old)
    web = Web(state)
    naming = _kept_names(web, old, weights_of(state, weights))
    for let in web.ranked:
        if let not in naming:
            wish = state.content(let)
            is_free = not _in_way(web, naming, let, wish)
            naming[let] = wish if is_free else _numbered(web, naming, let, wish)
    return _ascending(naming), sorted([let for let in old if naming[let] != old[let]])


def in_the_way(state, naming, let, name):
    """The other lets, ascending, that have to be written otherwise if the let is written by the name."""
    if not is_right(state, naming):
        raise NoNaming(naming)
    check_kind(state, let, "let")
    if not is_written(name):
        raise NoName(name)
    return _in_way(Web(state), naming, let, name)


def _in_way(web, naming, let, name):
    """The other lets, ascending, that have this name by the naming, perhaps of some lets only, and meet the let."""
    others = [other for other, given in naming.items() if given == name and other != let]
    return sorted([other for other in others if web.do_meet(let, other)])


def _numbered(web, naming, let, word):
    """The word and the least number from 1 that no let of this name, as named so far, meets the let."""
    number = 1
    while _in_way(web, naming, let, word + str(number)):
        number += 1
    return word + str(number)


def _kept_names(web, names, weights):
    """The dict of those lets that keep their names: of each name a clear lot of the most weight."""
    classes = {}
    for let, name in names.items():
        classes.setdefault(name, []).append(let)
    kept = {}
    for name, lets in classes.items():
        taken, _ = told_lot(web, lets, weights)
        for let in taken:
            kept[let] = name
    return kept


def _ascending(naming):
    """The naming, its lets ascending."""
    return {let: naming[let] for let in sorted(naming)}
