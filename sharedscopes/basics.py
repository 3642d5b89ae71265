"""Questions about any value, which all other modules ask."""


def is_number(value):
    """Whether any value is a number: an int that is neither True nor False."""
    return isinstance(value, int) and not isinstance(value, bool)


def is_from(value, least, most):
    """Whether any value is a number from least to most."""
    return is_number(value) and least <= value <= most


def is_tuple_of(value, many):
    """Whether any value is a tuple of so many items."""
    return isinstance(value, tuple) and len(value) == many


def is_listing(value):
    """Whether any value is a list or a tuple."""
    return isinstance(value, (list, tuple))


def is_like(value, told):
    """Whether any value is just what is told, which is made of lists, tuples, texts, numbers and None."""
    if isinstance(told, list):
        return isinstance(value, list) and are_like(value, told)
    if isinstance(told, tuple):
        return isinstance(value, tuple) and are_like(value, told)
    if isinstance(told, str):
        return isinstance(value, str) and value == told
    if told is None:
        return value is None
    # True == 1, so likeness alone would take True for a number.
    return is_number(value) and value == told


def are_like(values, told):
    """Whether the values of a list or tuple are just those told, one by one."""
    if len(values) != len(told):
        return False
    return all([is_like(value, part) for value, part in zip(values, told)])


def are_at_most(ones, others):
    """Whether no entry of the first times is above that of the others."""
    return all([one <= other for one, other in zip(ones, others)])
