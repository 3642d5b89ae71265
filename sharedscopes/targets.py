"""Targets: texts that a program can become, and which of its things are kept for which of their items."""

from sharedscopes.basics import is_listing, is_number, is_tuple_of
from sharedscopes.deeds import ROOT, is_name
from sharedscopes.errors import NoPairs, NoTarget
from sharedscopes.reading import meant_lets
from sharedscopes.scans import Scan


class Target:
    """The kinds and contents of a target's items, told by their paths, as they begin; the whole is a block at ()."""

    def __init__(self, text):
        meant = {use: let for use, let in meant_lets(text)}
        scan = Scan(text)
        self.kinds = {(): "block"}
        self.contents = {(): None}
        self.parts = {(): []}
        for path, head in zip(scan.paths, scan.heads):
            if head[0] == "lost" or (head[0] == "let" and not is_name(head[1])):
                raise NoTarget(text)
            self.kinds[path] = head[0]
            # What a use points to is told by the path of the let.
            self.contents[path] = meant[path] if head[0] == "use" else (*head, None)[1]
            self.parts[path] = []
            self.parts[path[:-1]].append(path)

    def has_item(self, value):
        """Whether any value is the path of an item."""
        if not isinstance(value, tuple) or not all([is_number(place) for place in value]):
            return False
        return value != () and value in self.kinds


def kept_by(state, target, pairs):
    """The dict from the root and the things of the pairs to their paths; refuses what is no pairs."""
    if not is_listing(pairs):
        raise NoPairs(None)
    kept = {ROOT: ()}
    paths = []
    for at, pair in enumerate(pairs):
        if not _is_pair(state, target, pair) or pair[0] in kept or pair[1] in paths:
            raise NoPairs(at)
        kept[pair[0]] = pair[1]
        paths.append(pair[1])
    return kept


def _is_pair(state, target, value):
    """Whether any value is a pair of a thing that is in, and the path of an item of its kind."""
    if not is_tuple_of(value, 2) or not state.is_in(value[0]) or not target.has_item(value[1]):
        return False
    return state.kind(value[0]) == target.kinds[value[1]]
