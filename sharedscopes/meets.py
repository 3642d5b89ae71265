"""Written names, namings, and which lets cannot have one name."""

from sharedscopes.basics import is_like, is_tuple_of
from sharedscopes.errors import NoNaming, NoThing
from sharedscopes.signs import written_end
from sharedscopes.states import check_kind, check_state
from sharedscopes.trees import Tree
from sharedscopes.webs import Web


def is_written(value):
    """Whether any value is a written name: a name, or one with a number from 1 to 99 behind it."""
    return isinstance(value, str) and len(value) > 0 and written_end(value, 0) == len(value)


def is_naming(state, value):
    """Whether any value is a dict from just the lets that are in to written names."""
    check_state(state)
    return is_part_naming(state, value) and len(value) == len(Tree(state).lets)


def live_points(state, let):
    """The live points of the let, ascending."""
    check_kind(state, let, "let")
    return sorted(Web(state).live[let])


def do_meet(state, one, other):
    """Whether two unlike lets have a live point in common."""
    check_kind(state, one, "let")
    check_kind(state, other, "let")
    if one == other:
        raise NoThing(other)
    return Web(state).do_meet(one, other)


def ranked_lets(state):
    """The lets that are in, by rank: by depth, then by stamp."""
    check_state(state)
    return Web(state).ranked


def read_as(state, naming, use):
    """The let for which the bound use is taken by the naming."""
    check_naming(state, naming)
    web = Web(state)
    if not state.is_in(use) or use not in web.bound:
        raise NoThing(use)
    return web.read_as(naming, use)


def is_right(state, naming):
    """Whether by the naming each bound use is taken for its binder."""
    return not _caught(state, naming)


def wrong_paper(state, naming):
    """The told paper: the first use of the line that is caught, and by which let; None of a right naming."""
    caught = _caught(state, naming)
    if not caught:
        return None
    use, let = caught[0]
    return ("caught", use, let)


def accepts_wrong(state, naming, value):
    """Whether any value is a right paper that the naming is wrong."""
    caught = _caught(state, naming)
    if not is_tuple_of(value, 3) or not is_like(value[0], "caught"):
        return False
    return any([is_like(value[1:], pair) for pair in caught])


def check_naming(state, naming):
    """Refuse what is no state, then what is no naming of it."""
    if not is_naming(state, naming):
        raise NoNaming(naming)


def is_part_naming(state, value):
    """Whether any value is a dict from some lets that are in to written names."""
    if not isinstance(value, dict):
        return False
    for let, name in value.items():
        if not state.is_in(let) or state.kind(let) != "let" or not is_written(name):
            return False
    return True


def _caught(state, naming):
    """The pairs of the bound uses that are taken for another let than their binder, and of this let, as in the line."""
    check_naming(state, naming)
    web = Web(state)
    read = [(use, web.read_as(naming, use)) for use in web.bound]
    return [(use, let) for use, let in read if let != web.bound[use]]
