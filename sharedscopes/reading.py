"""Reading: which lets the uses of a text mean, and the book that is made of it."""

from sharedscopes.books import MOST_DEEDS, Book
from sharedscopes.deeds import ROOT
from sharedscopes.errors import NotVisible, TooMany
from sharedscopes.scans import Scan, nested
from sharedscopes.signs import letters_of


def read_shape(text):
    """The shape of the text: its items without names, each use with the number of the let that it means."""
    scan = Scan(text)
    meant = _meant(scan)
    lets = [at for at, head in enumerate(scan.heads) if head[0] == "let"]
    numbers = {at: number for number, at in enumerate(lets)}
    heads = []
    for at, head in enumerate(scan.heads):
        if head[0] == "use":
            heads.append(("use", numbers[meant[at]]))
        else:
            heads.append(("let",) if head[0] == "let" else head)
    return nested(scan.paths, heads)


def meant_lets(text):
    """The list of the pairs (path of a use, path of the let that it means), as the uses begin."""
    scan = Scan(text)
    return [(scan.paths[use], scan.paths[let]) for use, let in _meant(scan).items()]


def made_of(text):
    """The book of hand 0 with a make for each item, as they begin."""
    scan = Scan(text)
    meant = _meant(scan)
    if len(scan.heads) > MOST_DEEDS:
        raise TooMany(MOST_DEEDS)
    stamps = {(): ROOT}
    for at, path in enumerate(scan.paths):
        stamps[path] = (at + 1, 0)
    bodies = []
    for at, head in enumerate(scan.heads):
        path = scan.paths[at]
        kind = "use" if head[0] == "lost" else head[0]
        content = stamps[scan.paths[meant[at]]] if head[0] == "use" else _content(head)
        bodies.append(("make", kind, stamps[path[:-1]], path[-1], content))
    return Book().followed(0, bodies)


def _content(head):
    """The content of an item that is no use, or a lost one."""
    if head[0] == "let":
        return letters_of(head[1])
    return head[1] if head[0] == "number" else None


def _meant(scan):
    """The dict from the numbers of the uses, as they begin, to those of the lets that they mean."""
    nearest = _nearest(scan)
    meant = {}
    for at, head in enumerate(scan.heads):
        if head[0] == "use":
            let = nearest[at]
            while let is not None and scan.heads[let][1] != head[1]:
                let = nearest[let]
            if let is None:
                raise NotVisible(scan.firsts[at])
            meant[at] = let
    return meant


def _nearest(scan):
    """For each item the number of the first let that is visible at it, or None."""
    nearest = []
    # For each holder the first let that is visible behind the items that it has so far.
    last = {(): None}
    for at, path in enumerate(scan.paths):
        nearest.append(last[path[:-1]])
        last[path] = nearest[at]
        if scan.heads[at][0] == "let":
            last[path[:-1]] = at
    return nearest
