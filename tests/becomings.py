"""The document's words on becoming, slowly, and a plain search through all bodies, without the package's plans."""

import itertools

from sharedscopes.grammar import plain_of
from sharedscopes.reading import meant_lets
from tests.model import HOLDERS, ROOT

WRITES = {"let": "wish", "use": "point", "number": "set"}


class Goal:
    """A target: the kinds, contents and parts of its items, by paths; a use has the path of its let as its content."""

    def __init__(self, text):
        self.kinds = {(): "block"}
        self.contents = {(): None}
        self.parts = {}
        self.take((), plain_of(text))
        self.contents.update(meant_lets(text))
        self.paths = [path for path in self.kinds if path]

    def take(self, path, items):
        self.parts[path] = [(*path, place) for place in range(len(items))]
        for part, item in zip(self.parts[path], items):
            self.kinds[part] = item[0]
            self.contents[part] = item[1] if item[0] in ("number", "let") else None
            self.take(part, item[-1] if item[0] in HOLDERS else ())


def told_pairs(view, goal):
    """The told pairs, by trying all rows."""
    pairs = []

    def below(thing, path):
        things, items = view.plant.parts[thing], goal.parts[path]
        for many in range(min(len(things), len(items)), 0, -1):
            found = [(ones, others) for ones in itertools.combinations(range(len(things)), many)
                     for others in itertools.combinations(range(len(items)), many)
                     if [view.kinds[things[one]] for one in ones] == [goal.kinds[items[other]] for other in others]]
            if found:
                for one, other in zip(*min(found)):
                    pairs.append((things[one], items[other]))
                    below(*pairs[-1])
                return

    below(ROOT, ())
    return tuple(sorted(pairs))


def all_pairs(view, goal):
    """All pairs of things and items, as ascending tuples."""
    things = sorted(thing for thing in view.line if thing != ROOT)
    fits = [[None] + [path for path in goal.paths if goal.kinds[path] == view.kinds[thing]] for thing in things]
    for paths in itertools.product(*fits):
        taken = [path for path in paths if path]
        if len(set(taken)) == len(taken):
            yield tuple((thing, path) for thing, path in zip(things, paths) if path)


def least_number(view, goal, pairs):
    """The sum of which the document tells."""
    kept = {ROOT: (), **dict(pairs)}
    item = {path: thing for thing, path in kept.items()}
    holder = {part: thing for thing, under in view.plant.parts.items() for part in under}
    fresh = [path for path in goal.paths if path not in item]
    dropped = [thing for thing in view.line if thing not in kept and holder[thing] in kept]
    changed = []
    for thing, path in pairs:
        if view.kinds[thing] == "use":
            meant = goal.contents[path]
            if meant not in item or view.contents[thing] != item[meant]:
                changed.append(thing)
        elif view.kinds[thing] in WRITES and view.contents[thing] != goal.contents[path]:
            changed.append(thing)
    moved = [thing for thing, path in pairs if kept.get(holder[thing]) != path[:-1]]
    again = 0
    for one, path in kept.items():
        if view.kinds[one] in HOLDERS:
            under = [thing for thing in view.plant.parts[one] if thing in kept and kept[thing] in goal.parts[path]]
            again += len(under) - max(many for many in range(len(under) + 1) for lot in itertools.combinations(under, many)
                                      if can_stay(view, kept, view.plant.parts[one], lot))
    return len(fresh) + len(dropped) + len(changed) + len(moved) + again


def can_stay(view, kept, order, lot):
    """Whether the things of the lot, which are under one thing of this order, can stay together."""
    row = sorted(lot, key=lambda thing: kept[thing])
    if row != sorted(row, key=order.index):
        return False
    for one, other in zip(row, row[1:]):
        if kept[other][-1] - kept[one][-1] > 1 and not view.places[one][1] < view.places[other][1]:
            return False
    return not row or kept[row[0]][-1] == 0 or view.places[row[0]][1] > 0


class World:
    """The things of a state, in a form that is quick to change: [kind, content, under, key, stamp], under None for nowhere."""

    def __init__(self, table):
        self.table = table

    def done(self, body, stamp):
        """The world behind the body, which finds what it needs; None for a ring."""
        table = dict(self.table)
        if body[0] == "make":
            table[stamp] = (body[1], body[4], body[2], body[3], stamp)
        elif body[0] == "drop":
            table[body[1]] = (*table[body[1]][:2], None, None, stamp)
        elif body[0] == "move":
            at = body[2]
            while at is not None:
                if at == body[1]:
                    return None
                at = None if at == ROOT else table[at][2]
            table[body[1]] = (*table[body[1]][:2], body[2], body[3], stamp)
        else:
            table[body[1]] = (table[body[1]][0], body[2], *table[body[1]][2:])
        return World(table)

    def under(self, thing):
        return [part for _, _, part in sorted((row[3], row[4], part) for part, row in self.table.items() if row[2] == thing)]

    def paths(self):
        found = {}

        def take(thing, path):
            found[path] = thing
            for place, part in enumerate(self.under(thing)):
                take(part, (*path, place))

        take(ROOT, ())
        return found

    def is_become(self, goal, pairs, old):
        """Whether it is the goal, the kept things at their items, and all others not among the old ones."""
        found = self.paths()
        if list(found) != list(goal.kinds):
            return False
        kept = dict(pairs)
        for path in goal.paths:
            kind, content = self.table[found[path]][:2]
            wanted = found[goal.contents[path]] if goal.kinds[path] == "use" else goal.contents[path]
            if (kind, content) != (goal.kinds[path], wanted):
                return False
            if found[path] in old and found[path] not in kept:
                return False
        return all(found[path] == thing for thing, path in pairs)

    def bodies(self, goal, most_key):
        """All bodies that can be of use: no other contents than those of the goal, keys up to one."""
        inside = list(self.paths().values())
        lets = [thing for thing in inside if thing != ROOT and self.table[thing][0] == "let"]
        holders = [thing for thing in inside if thing == ROOT or self.table[thing][0] in HOLDERS]
        contents = {kind: sorted({goal.contents[path] for path in goal.paths if goal.kinds[path] == kind})
                    for kind in ("let", "number")}
        contents["use"] = lets
        for key in range(most_key + 1):
            for holder in holders:
                for kind in {goal.kinds[path] for path in goal.paths}:
                    for content in contents.get(kind, [None]):
                        yield ("make", kind, holder, key, content)
                for thing in self.table:
                    yield ("move", thing, holder, key)
        for thing in self.table:
            yield ("drop", thing)
            kind = self.table[thing][0]
            for content in contents.get(kind, []):
                yield (WRITES[kind], thing, content)

    def can_become(self, goal, pairs, old, many, time, most_key):
        """Whether some row of just so many bodies makes it the goal."""
        if many == 0:
            return self.is_become(goal, pairs, old)
        for body in self.bodies(goal, most_key):
            behind = self.done(body, (time, 0))
            if behind and behind.can_become(goal, pairs, old, many - 1, time + 1, most_key):
                return True
        return False


def world_of(view):
    rows = {}
    for thing in view.kinds:
        if thing != ROOT:
            under, key, stamp = view.places[thing] or (None, None, None)
            rows[thing] = (view.kinds[thing], view.contents[thing], under, key, stamp)
    return World(rows)
