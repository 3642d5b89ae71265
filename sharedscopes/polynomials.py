"""Polynomials: what values are made of, whatever the numbers are."""

from sharedscopes.basics import is_from, is_tuple_of
from sharedscopes.deeds import is_stamp
from sharedscopes.errors import NoContents, TooMany
from sharedscopes.sheets import MODULUS

MOST_CONTENT = 99

_MOST_TERMS = 100

_MOST_TIMES = 99


def is_polynomial(value):
    """Whether any value is a polynomial: an ascending tuple of terms (variables, factor)."""
    if not isinstance(value, tuple) or len(value) > _MOST_TERMS or not all([_is_term(term) for term in value]):
        return False
    return all([one[0] < other[0] for one, other in zip(value, value[1:])])


def sum_of(one, other):
    """The sum of two polynomials."""
    _check_polynomial(one)
    _check_polynomial(other)
    factors = {}
    for variables, factor in one + other:
        factors[variables] = factors.get(variables, 0) + factor
    return _polynomial(factors)


def product_of(one, other):
    """The product of two polynomials."""
    _check_polynomial(one)
    _check_polynomial(other)
    factors = {}
    for ahead, factor in one:
        for behind, by in other:
            variables = tuple(sorted(ahead + behind))
            factors[variables] = factors.get(variables, 0) + factor * by
    return _polynomial(factors)


def value_at(polynomial, contents):
    """The value of the polynomial by the contents of its variables."""
    _check_polynomial(polynomial)
    if not _are_contents(polynomial, contents):
        raise NoContents(contents)
    total = 0
    for variables, factor in polynomial:
        term = factor
        for variable in variables:
            term = term * contents[variable] % MODULUS
        total += term
    return total % MODULUS


def variables_in(polynomials):
    """The variables of some polynomials, each once, ascending."""
    return sorted({variable for polynomial in polynomials for variables, _ in polynomial for variable in variables})


def _check_polynomial(value):
    """Refuse what is no polynomial."""
    if not is_polynomial(value):
        raise NoContents(value)


def _is_term(value):
    """Whether any value is a term of a polynomial."""
    if not is_tuple_of(value, 2) or not is_from(value[1], 1, MODULUS - 1):
        return False
    variables = value[0]
    if not isinstance(variables, tuple) or not all([is_stamp(variable) for variable in variables]):
        return False
    return list(variables) == sorted(variables) and _are_few(variables)


def _are_few(variables):
    """Whether no variable stands too many times in a tuple of variables in order."""
    return all([one != other for one, other in zip(variables, variables[_MOST_TIMES:])])


def _polynomial(factors):
    """The polynomial with these factors, by remainders, told by variables; refuses one beyond the bounds."""
    terms = [(variables, factor % MODULUS) for variables, factor in factors.items() if factor % MODULUS != 0]
    if len(terms) > _MOST_TERMS or not all([_are_few(variables) for variables, _ in terms]):
        raise TooMany(_MOST_TERMS)
    return tuple(sorted(terms))


def _are_contents(polynomial, value):
    """Whether any value is a dict from stamps to contents, the polynomial's variables among them."""
    if not isinstance(value, dict):
        return False
    if not all([is_stamp(stamp) and is_from(content, 0, MOST_CONTENT) for stamp, content in value.items()]):
        return False
    return all([variable in value for variable in variables_in([polynomial])])
