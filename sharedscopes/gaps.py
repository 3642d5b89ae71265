"""Gaps: where a thing can go, and what it would lose there."""

from sharedscopes.basics import is_listing
from sharedscopes.deeds import ROOT
from sharedscopes.errors import NoThing, NoThings
from sharedscopes.rests import Rest, check_gap, rest_of
from sharedscopes.states import check_state

_MOST_KEY = 999


def gaps_of(state, thing):
    """The gaps (under, place) of the thing, in order."""
    return rest_of(state, thing).gaps


def gap_sees(state, thing, gap, let):
    """Whether the gap sees a let of the rest."""
    rest = rest_of(state, thing)
    check_gap(rest, gap)
    if not state.is_in(let) or let not in rest.tree.lets:
        raise NoThing(let)
    return let in rest.seen_from(gap)


def let_scope(state, thing, gap):
    """What stands in the rest under the gap's under from its place on, and what is below, in the order of the line."""
    rest = rest_of(state, thing)
    check_gap(rest, gap)
    return rest.scope_of(gap)


def demands_of(state, thing):
    """The uses that some gaps keep and others may lose, ascending."""
    return list(rest_of(state, thing).demands)


def kept_at(state, thing, gap):
    """The demands that the gap keeps, ascending."""
    rest = rest_of(state, thing)
    check_gap(rest, gap)
    return rest.kept_at(gap)


def most_kept(state, thing):
    """The greatest number of demands kept at one gap."""
    rest = rest_of(state, thing)
    return max([len(rest.kept_at(gap)) for gap in rest.gaps])


def best_gaps(state, thing):
    """The gaps that keep the most demands, in order."""
    rest = rest_of(state, thing)
    kept = [len(rest.kept_at(gap)) for gap in rest.gaps]
    return [gap for gap, many in zip(rest.gaps, kept) if many == max(kept)]


def free_runs(state, thing):
    """The greatest runs (under, first place, last place) of gaps that keep all demands, by their first gaps."""
    rest = rest_of(state, thing)
    free = [gap for gap in rest.gaps if len(rest.kept_at(gap)) == len(rest.demands)]
    runs = []
    for under, first in free:
        if (under, first - 1) not in free:
            last = first
            while (under, last + 1) in free:
                last += 1
            runs.append((under, first, last))
    return runs


def keys_at(state, thing, gap):
    """The pair (least, greatest) of the keys with which a late move puts the thing into the gap, or None."""
    rest = rest_of(state, thing)
    check_gap(rest, gap)
    return _keys(state, rest, gap)


def best_move(state, thing):
    """The first (how many demands are lost, under, key) of the gaps with keys that lose the fewest."""
    rest = rest_of(state, thing)
    rows = []
    for at, gap in enumerate(rest.gaps):
        keys = _keys(state, rest, gap)
        if keys is not None:
            rows.append((len(rest.demands) - len(rest.kept_at(gap)), at, gap[0], keys[0]))
    lost, _, under, key = min(rows)
    return lost, under, key


def narrowest_gap(state, things):
    """The last gap of the whole state in whose let-scope all the things are."""
    check_state(state)
    if not is_listing(things):
        raise NoThings(None)
    for at, thing in enumerate(things):
        if not state.is_in(thing) or thing == ROOT:
            raise NoThings(at)
    whole = Rest(state)
    return [gap for gap in whole.gaps if _has_all(whole.scope_of(gap), things)][-1]


def _keys(state, rest, gap):
    """The pair of the least and the greatest key that lead into the gap, None if there is none."""
    under, place = gap
    keys = [state.place(part)[1] for part in rest.tree.parts[under]]
    # A later move stands behind the things that have its key.
    least = ([0] + keys)[place]
    greatest = (keys + [_MOST_KEY + 1])[place] - 1
    return (least, greatest) if least <= greatest else None


def _has_all(scope, things):
    """Whether all the things are in the scope."""
    return all([thing in scope for thing in things])
