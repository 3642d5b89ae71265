"""Sheets: what the values of the things that are in are made of."""

from sharedscopes.scopes import bound_uses
from sharedscopes.states import ends_of
from sharedscopes.trees import Tree

MODULUS = 9973


class Sheet:
    """The kinds, contents and parts of the things that are in, as they end: so each one stands behind its parts."""

    def __init__(self, state):
        bound = bound_uses(state, Tree(state))
        self.kinds = {thing: state.kind(thing) for thing in ends_of(state)}
        self.contents = {thing: state.content(thing) for thing in self.kinds}
        self.parts = {thing: _parts(state, bound, thing) for thing in self.kinds}

    def is_lost(self, thing):
        """Whether the thing is a use that is not bound."""
        return self.kinds[thing] == "use" and not self.parts[thing]

    def hung_on(self, things):
        """All on which one of the things hangs, in the order of ends."""
        reached = set(things)
        for thing in list(self.parts)[::-1]:
            if thing in reached:
                for part in self.parts[thing]:
                    reached.add(part)
        return [thing for thing in self.parts if thing in reached]

    def causes(self, thing):
        """The lost uses on which the thing hangs, ascending."""
        return sorted([other for other in self.hung_on([thing]) if self.is_lost(other)])

    def worths(self):
        """The dict from the things, in the order of ends, to their values."""
        worths = {}
        for thing, parts in self.parts.items():
            own = [worths[part] for part in parts]
            if None in own or self.is_lost(thing):
                worths[thing] = None
            elif self.kinds[thing] == "number":
                worths[thing] = self.contents[thing]
            else:
                worths[thing] = _worth(self.kinds[thing], own)
        return worths


def _parts(state, bound, thing):
    """The parts of a thing, in order; bound has the binders of the bound uses."""
    kind = state.kind(thing)
    if kind == "use":
        return [bound[thing]] if thing in bound else []
    parts = [part for part in state.under(thing) if state.kind(part) != "let"]
    return parts if kind in ("sum", "product") else parts[-1:]


def _worth(kind, worths):
    """The value of a thing of this kind, but a number, whose parts have these values."""
    if kind == "sum":
        return sum(worths) % MODULUS
    if kind == "product":
        return _product(worths)
    return worths[0] if worths else 0


def _product(worths):
    """The product by its remainder."""
    product = 1
    for worth in worths:
        product = product * worth % MODULUS
    return product
