"""Scopes: which lets are visible where, and which uses are bound."""

from sharedscopes.states import check_in, check_kind, check_state
from sharedscopes.trees import Tree


def nearest_let(state, thing):
    """The last let ahead of the thing under the same one, or else the nearest of what it is under, or None."""
    check_in(state, thing)
    return Tree(state).nearest[thing]


def visible_lets(state, thing):
    """The lets that are visible at the thing, the nearest first."""
    check_in(state, thing)
    return Tree(state).visible(thing)


def scope_of(state, let):
    """The things later than the let under the same one, and what is below these, in the order of the line."""
    check_kind(state, let, "let")
    parts = state.under(state.holder(let))
    scope = []
    for part in parts[parts.index(let) + 1:]:
        scope.append(part)
        scope.extend(state.below(part))
    return scope


def told_use(state, use):
    """What is told of the use: ("bound", binder), ("none",), ("gone",) or ("out",)."""
    check_kind(state, use, "use")
    binder = state.content(use)
    if binder is None:
        return ("none",)
    if not state.is_in(binder) or state.kind(binder) != "let":
        return ("gone",)
    return ("bound", binder) if binder in Tree(state).visible(use) else ("out",)


def uses_of(state, let):
    """The uses that are bound at the let, ascending."""
    check_kind(state, let, "let")
    return sorted([use for use, binder in bound_uses(state, Tree(state)).items() if binder == let])


def lost_uses(state):
    """The uses that are in and not bound, ascending."""
    check_state(state)
    tree = Tree(state)
    bound = bound_uses(state, tree)
    return sorted([thing for thing in tree.order if state.kind(thing) == "use" and thing not in bound])


def depth_of(state, let):
    """How many lets are visible at the let."""
    check_kind(state, let, "let")
    return len(Tree(state).visible(let))


def lets_in(state):
    """The lets that are in, ascending."""
    check_state(state)
    return Tree(state).lets


def bound_uses(state, tree):
    """The dict from the bound uses of a tree of the state, in its order, to their binders."""
    uses = [thing for thing in tree.order if state.kind(thing) == "use"]
    return {use: state.content(use) for use in uses if state.content(use) in tree.visible(use)}
