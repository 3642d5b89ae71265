"""Writing: the text and the shape of a state."""

from sharedscopes.deeds import ROOT
from sharedscopes.meets import check_naming
from sharedscopes.namings import told_naming
from sharedscopes.scopes import bound_uses
from sharedscopes.states import check_state
from sharedscopes.trees import Tree

_SIGNS = {"sum": "+", "product": "*"}


def text_by(state, naming):
    """The text of the state by the naming, which may be a wrong one."""
    check_naming(state, naming)
    names = {let: naming[let] for let in naming}
    for use, let in bound_uses(state, Tree(state)).items():
        names[use] = naming[let]
    return _text_below(state, names, ROOT)


def text_of(state, weights=None):
    """The told text of the state: that by the told naming."""
    return text_by(state, told_naming(state, weights))


def shape_of(state):
    """The shape of the state: its items without names, each bound use with the number of its binder."""
    check_state(state)
    tree = Tree(state)
    lets = [thing for thing in tree.order if state.kind(thing) == "let"]
    numbers = {use: lets.index(let) for use, let in bound_uses(state, tree).items()}
    return _shape_below(state, numbers, ROOT)


def are_alike(one, other):
    """Whether two states have one shape."""
    check_state(one)
    check_state(other)
    return shape_of(one) == shape_of(other)


def _text_below(state, names, thing):
    """The texts of what is under the thing, joined by blanks."""
    return " ".join([_text(state, names, part) for part in state.under(thing)])


def _text(state, names, thing):
    """The text of the thing; names has the written names of the lets and of the bound uses."""
    kind = state.kind(thing)
    if kind == "number":
        return str(state.content(thing))
    if kind == "use":
        return names.get(thing, "?")
    inner = _text_below(state, names, thing)
    if kind == "block":
        return "(" + inner + ")"
    head = "(" + (names[thing] + " =" if kind == "let" else _SIGNS[kind])
    return head + (" " + inner if inner else "") + ")"


def _shape_below(state, numbers, thing):
    """The tuple of the shapes of what is under the thing."""
    return tuple([_shape(state, numbers, part) for part in state.under(thing)])


def _shape(state, numbers, thing):
    """The shape of the thing; numbers has those of the bound uses' binders."""
    kind = state.kind(thing)
    if kind == "number":
        return ("number", state.content(thing))
    if kind == "use":
        return ("use", numbers[thing]) if thing in numbers else ("lost",)
    return (kind, _shape_below(state, numbers, thing))
