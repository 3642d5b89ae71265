"""Plans: what has to be done so that a state becomes a target by some pairs, and no more than that."""

from sharedscopes.deeds import ROOT

_WRITERS = {"let": "wish", "use": "point", "number": "set"}


class Plan:
    """What is done to the things of a state, of which some are kept, told with their paths."""

    def __init__(self, state, target, kept):
        self._state = state
        self._target = target
        self._kept = kept
        self._things = {path: thing for thing, path in kept.items()}
        self._staying = {ROOT: True}
        for thing in kept:
            self._let_stay(thing)
        self._dropped = [thing for thing in state.line() if thing not in kept and state.holder(thing) in kept]

    def total(self):
        """How many bodies are needed."""
        fresh = len(self._target.kinds) - len(self._kept)
        moved = len(self._kept) - len(self._staying)
        rewritten = [thing for thing in self._kept if self._is_rewritten(thing)]
        return fresh + moved + len(rewritten) + len(self._dropped)

    def bodies(self, first, hand):
        """So many bodies, for the hand to do from the time first on."""
        bodies = [("drop", thing) for thing in self._dropped]
        stamps = {(): ROOT}
        keys = {}
        # As the items begin, each holder stands at its place ahead of what is put under it, so no move is a ring.
        for path in list(self._target.kinds)[1:]:
            under = path[:-1]
            key = keys.get(under, 0)
            if path not in self._things:
                stamps[path] = (first + len(bodies), hand)
                content = self._written(path, stamps)
                bodies.append(("make", self._target.kinds[path], stamps[under], key, content))
                continue
            thing = self._things[path]
            stamps[path] = thing
            if thing in self._staying:
                keys[under] = self._key(thing)
            else:
                bodies.append(("move", thing, stamps[under], key))
            if self._is_rewritten(thing):
                bodies.append((_WRITERS[self._target.kinds[path]], thing, self._written(path, stamps)))
        return bodies

    def _is_rewritten(self, thing):
        """Whether a kept thing has another content than its item."""
        path = self._kept[thing]
        if self._target.kinds[path] == "use" and self._target.contents[path] not in self._things:
            return True
        return self._state.content(thing) != self._written(path, self._things)

    def _written(self, path, things):
        """The content of the item; things has what a use can point to, told by paths."""
        content = self._target.contents[path]
        return things[content] if self._target.kinds[path] == "use" else content

    def _key(self, thing):
        return self._state.place(thing)[1]

    def _let_stay(self, holder):
        """Take in as many as can stay of the kept things under a kept one whose items are under its item."""
        path = self._kept[holder]
        order = self._state.under(holder)
        rows = []
        for place, item in enumerate(self._target.parts[path]):
            thing = self._things.get(item)
            if thing in order:
                rows.append((place, order.index(thing), self._key(thing), thing))
        for thing in _longest(rows):
            self._staying[thing] = True


def _longest(rows):
    """The things of a longest chain of the rows (place in the target, place in the state, key, thing)."""
    chains = []
    for row in rows:
        ahead = [chain for chain in chains if _can_follow(chain[-1], row)]
        best = max(ahead, key=len, default=[])
        if best or _can_begin(row):
            chains.append([*best, row])
    return [row[3] for row in max(chains, key=len, default=[])]


def _can_begin(row):
    """Whether no item, or room for a key, is ahead of the thing."""
    return row[0] == 0 or row[2] > 0


def _can_follow(ahead, row):
    """Whether a thing can stay as the next one behind another one that stays."""
    if ahead[1] > row[1]:
        return False
    return row[0] == ahead[0] + 1 or ahead[2] < row[2]
