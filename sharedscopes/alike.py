"""Things that are alike whatever the numbers are, and papers that show of two things whether they are."""

from sharedscopes.basics import is_from, is_like, is_tuple_of
from sharedscopes.deeds import is_thing
from sharedscopes.errors import HasCause, TooMany
from sharedscopes.polynomials import MOST_CONTENT, product_of, sum_of, value_at, variables_in
from sharedscopes.scopes import uses_of, visible_lets
from sharedscopes.sheets import MODULUS, Sheet
from sharedscopes.states import check_in, check_kind

_NOTHING = ()

_ONE = (((), 1),)


def polynomial_of(state, thing):
    """The polynomial of a thing without causes."""
    check_in(state, thing)
    sheet = Sheet(state)
    _check_cause(sheet, thing)
    return _polynomials(sheet, [thing])[thing]


def are_always(state, one, other):
    """Whether two things without causes are alike whatever the numbers are."""
    found = _polynomials(_sheet_of_both(state, one, other), [one, other])
    return found[one] == found[other]


def witness_of(state, one, other):
    """The least contents of the variables by which the values of the things are unlike, None of alike ones."""
    found = _polynomials(_sheet_of_both(state, one, other), [one, other])
    return None if found[one] == found[other] else _witness(found[one], found[other])


def alike_paper(state, one, other):
    """The told paper of two things, of either kind."""
    found = _polynomials(_sheet_of_both(state, one, other), [one, other])
    if found[one] == found[other]:
        return ("alike", tuple(found.items()))
    return ("unlike", tuple(variables_in([found[one], found[other]])), _witness(found[one], found[other]))


def accepts_alike(state, one, other, value):
    """Whether any value is a right paper of the two things, of either kind."""
    sheet = _sheet_of_both(state, one, other)
    found = _polynomials(sheet, [one, other])
    if is_tuple_of(value, 2) and is_like(value[0], "alike"):
        return _do_show_alike(sheet, one, other, value[1])
    if is_tuple_of(value, 3) and is_like(value[0], "unlike"):
        return _do_show_unlike(found[one], found[other], value[1], value[2])
    return False


def profile_of(state, number, thing):
    """The tuple of the thing's values with each content of the number."""
    check_kind(state, number, "number")
    check_in(state, thing)
    sheet = Sheet(state)
    values = []
    for content in range(MOST_CONTENT + 1):
        sheet.contents[number] = content
        values.append(sheet.worths()[thing])
    return tuple(values)


def choices_of(state, use, thing):
    """The pairs of a let visible at the use, the nearest first, and the thing's value, were the use pointed to it."""
    check_kind(state, use, "use")
    check_in(state, thing)
    sheet = Sheet(state)
    pairs = []
    for let in visible_lets(state, use):
        sheet.parts[use] = [let]
        pairs.append((let, sheet.worths()[thing]))
    return pairs


def spare_by(state, let):
    """The first let in the order of the line by which this one is spare, or None."""
    check_kind(state, let, "let")
    own = polynomial_of(state, let)
    uses = uses_of(state, let)
    for other in state.line():
        if state.kind(other) == "let" and other != let and _has_polynomial(state, other, own):
            if all([other in visible_lets(state, use) for use in uses]):
                return other
    return None


def _has_polynomial(state, thing, polynomial):
    """Whether the thing has this polynomial; one with causes, or beyond the bounds, has none."""
    try:
        return polynomial_of(state, thing) == polynomial
    except (HasCause, TooMany):
        return False


def _sheet_of_both(state, one, other):
    """The sheet of the state; refuses what is no state, no things that are in, and things with causes."""
    check_in(state, one)
    check_in(state, other)
    sheet = Sheet(state)
    _check_cause(sheet, one)
    _check_cause(sheet, other)
    return sheet


def _check_cause(sheet, thing):
    """Refuse a thing that has a cause."""
    if sheet.causes(thing):
        raise HasCause(thing)


def _polynomials(sheet, things):
    """The dict from all on which the things hang, in the order of ends, to their polynomials."""
    found = {}
    for thing in sheet.hung_on(things):
        found[thing] = _from_parts(sheet, thing, found)
    return found


def _from_parts(sheet, thing, found):
    """The polynomial of a thing whose parts have found ones."""
    kind = sheet.kinds[thing]
    if kind == "number":
        return (((thing,), 1),)
    parts = [found[part] for part in sheet.parts[thing]]
    if kind == "product":
        total = _ONE
        for part in parts:
            total = product_of(total, part)
        return total
    # Of the other kinds only a sum has more than one part, and those without parts are 0 as an empty sum is.
    total = _NOTHING
    for part in parts:
        total = sum_of(total, part)
    return total


def _witness(one, other):
    """The least contents of the variables by which two unlike polynomials have unlike values."""
    rest = {variables: factor for variables, factor in one}
    for variables, factor in other:
        rest[variables] = rest.get(variables, 0) - factor
    contents = []
    for variable in variables_in([one, other]):
        content = 0
        # A variable stands at most 99 times in a term, so not all hundred contents make the rest 0.
        while not _put(rest, variable, content):
            content += 1
        rest = _put(rest, variable, content)
        contents.append(content)
    return tuple(contents)


def _put(factors, variable, content):
    """The factors that are not 0, told by variables, with the content put in the place of the variable."""
    put = {}
    for variables, factor in factors.items():
        others = tuple([other for other in variables if other != variable])
        worth = factor
        for _ in range(len(variables) - len(others)):
            worth = worth * content % MODULUS
        put[others] = (put.get(others, 0) + worth) % MODULUS
    return {variables: factor for variables, factor in put.items() if factor != 0}


def _do_show_alike(sheet, one, other, rows):
    """Whether any value is a tuple of rows that shows that the things are alike."""
    if not isinstance(rows, tuple):
        return False
    found = {}
    for row in rows:
        if not is_tuple_of(row, 2) or not is_thing(row[0]) or row[0] in found or not _fits(sheet, row, found):
            return False
        found[row[0]] = row[1]
    return one in found and other in found and found[one] == found[other]


def _fits(sheet, row, found):
    """Whether a pair of a stamp or the root, and any value, has the polynomial that comes of the found ones."""
    thing, value = row
    if thing not in sheet.parts or sheet.is_lost(thing) or not all([part in found for part in sheet.parts[thing]]):
        return False
    try:
        return is_like(value, _from_parts(sheet, thing, found))
    except TooMany:
        return False


def _do_show_unlike(one, other, variables, contents):
    """Whether any values are the variables of the polynomials, and contents by which they have unlike values."""
    told = tuple(variables_in([one, other]))
    if not is_like(variables, told) or not is_tuple_of(contents, len(told)):
        return False
    if not all([is_from(content, 0, MOST_CONTENT) for content in contents]):
        return False
    given = {variable: content for variable, content in zip(told, contents)}
    return value_at(one, given) != value_at(other, given)
