"""Webs: which lets of a state meet."""

from sharedscopes.scopes import bound_uses
from sharedscopes.trees import Tree


class Web:
    """The lets of a state that are in, each with its live points, and the bound uses."""

    def __init__(self, state):
        self.tree = Tree(state)
        self.bound = bound_uses(state, self.tree)
        self.live = {let: {let: True} for let in self.tree.lets}
        for use, let in self.bound.items():
            self._mark(self.tree.nearest[use], let)
        ranks = {let: (len(self.tree.visible(let)), let) for let in self.tree.lets}
        self.ranked = [let for _, let in sorted(ranks.values())]

    def do_meet(self, one, other):
        """Whether the lets have a live point in common."""
        # From a common point on down the points of both lead to both lets, so one of these is a point of the other.
        return other in self.live[one] or one in self.live[other]

    def read_as(self, naming, use):
        """The let for which a bound use is taken by the naming."""
        name = naming[self.bound[use]]
        return [let for let in self.tree.visible(use) if naming[let] == name][0]

    def _mark(self, point, let):
        """Take in the points from this one on down to the let as live ones of it."""
        at = point
        while at != let:
            self.live[let][at] = True
            at = self.tree.nearest[at]
