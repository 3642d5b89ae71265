"""Rests: a state without one thing and what is below it, and the gaps where the thing can go."""

from sharedscopes.basics import is_number, is_tuple_of
from sharedscopes.deeds import ROOT, does_hold, is_thing
from sharedscopes.errors import NoGap, NoThing
from sharedscopes.states import check_state
from sharedscopes.trees import Tree


class Rest:
    """What is in without a thing, or all that is in where the thing is None."""

    def __init__(self, state, thing=None):
        self.tree = Tree(state, thing)
        self.gaps = []
        self._open_gaps(state, ROOT)
        self.demands = {}
        if thing is not None:
            self._demand(state, thing)

    def has_gap(self, value):
        """Whether any value is a gap here."""
        return is_tuple_of(value, 2) and is_thing(value[0]) and is_number(value[1]) and value in self.gaps

    def seen_from(self, gap):
        """The lets that the gap sees."""
        under, place = gap
        ahead = self.tree.parts[under][:place]
        return [part for part in ahead if part in self.tree.lets] + self.tree.visible(under)

    def scope_of(self, gap):
        """The let-scope of the gap, in the order of the line."""
        under, place = gap
        scope = []
        for part in self.tree.parts[under][place:]:
            scope.append(part)
            scope.extend(self.tree.below(part))
        return scope

    def kept_at(self, gap):
        """The demands that are kept at the gap, ascending."""
        seen = self.seen_from(gap)
        scope = self.scope_of(gap)
        return [use for use, let in self.demands.items() if (use in scope if let is None else let in seen)]

    def _open_gaps(self, state, under):
        """Take in the gaps of a thing that holds others, and those within it."""
        self.gaps.append((under, 0))
        for at, part in enumerate(self.tree.parts[under]):
            if does_hold(state.kind(part)):
                self._open_gaps(state, part)
            self.gaps.append((under, at + 1))

    def _demand(self, state, thing):
        """Take in the uses that want a let of the rest, each with it, and those that want the thing, with None."""
        moved = [thing] + state.below(thing)
        wanted = {use: state.content(use) for use in moved if state.kind(use) == "use"}
        rows = [(use, let) for use, let in wanted.items() if let in self.tree.lets]
        if state.kind(thing) == "let":
            uses = [use for use in self.tree.order if state.kind(use) == "use"]
            rows.extend([(use, None) for use in uses if state.content(use) == thing])
        # A use stands in one row only, but None and a let are not ordered.
        for use, let in sorted(rows, key=_first):
            self.demands[use] = let


def rest_of(state, thing):
    """The rest without the thing; refuses what is no state, then what is no thing that is there, or is the root."""
    check_state(state)
    if not state.is_there(thing) or thing == ROOT:
        raise NoThing(thing)
    return Rest(state, thing)


def check_gap(rest, gap):
    """Refuse what is no gap of the rest."""
    if not rest.has_gap(gap):
        raise NoGap(gap)


def _first(row):
    return row[0]
