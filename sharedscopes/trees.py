"""The tree of the things that are in, with the nearest let of each."""

from sharedscopes.deeds import ROOT


class Tree:
    """The things of a state that are in, perhaps without one thing and what is below it."""

    def __init__(self, state, cut=None):
        self.order = []
        self.parts = {}
        self.nearest = {ROOT: None}
        self.lets = []
        self._grow(state, ROOT, cut)
        self.lets = sorted(self.lets)

    def visible(self, thing):
        """The lets that are visible at a thing of the tree, the nearest first."""
        lets = []
        at = self.nearest[thing]
        while at is not None:
            lets.append(at)
            at = self.nearest[at]
        return lets

    def below(self, thing):
        """The things of the tree below this one, as they begin."""
        below = []
        for part in self.parts[thing]:
            below.append(part)
            below.extend(self.below(part))
        return below

    def _grow(self, state, thing, cut):
        """Take in the thing, whose nearest let is known, and what is below it."""
        self.order.append(thing)
        parts = [part for part in state.under(thing) if part != cut]
        nearest = self.nearest[thing]
        self.parts[thing] = parts
        for part in parts:
            self.nearest[part] = nearest
            self._grow(state, part, cut)
            if state.kind(part) == "let":
                self.lets.append(part)
                nearest = part
