"""The document's words on values, useless lets and polynomials, slowly and without the package, on top of the views."""

import itertools

from tests.model import ROOT

BY = 9973


class Beyond(Exception):
    """A polynomial beyond the bounds."""


class Worth:
    """What the things of a view are worth."""

    def __init__(self, view, contents=None, bound=None):
        self.view = view
        self.kinds = view.kinds
        self.contents = {**view.contents, **(contents or {})}
        self.bound = {**view.bound, **(bound or {})}
        self.memory = {}

    def parts(self, thing):
        kind = self.kinds[thing]
        if kind == "number":
            return []
        if kind == "use":
            return [self.bound[thing]] if thing in self.bound else []
        under = [part for part in self.view.plant.parts[thing] if self.kinds[part] != "let"]
        if kind in ("sum", "product"):
            return under
        return under[-1:]

    def value(self, thing):
        if thing not in self.memory:
            self.memory[thing] = self.work_out(thing)
        return self.memory[thing]

    def work_out(self, thing):
        kind = self.kinds[thing]
        if kind == "number":
            return self.contents[thing]
        if kind == "use" and thing not in self.bound:
            return None
        values = [self.value(part) for part in self.parts(thing)]
        if kind == "sum":
            return None if None in values else sum(values) % BY
        if kind == "product":
            product = 1
            for value in values:
                product = None if None in (value, product) else product * value % BY
            return product
        return values[-1] if values else 0

    def hung(self, thing):
        """All on which the thing hangs: itself, and what its parts hang on."""
        found = {thing}
        for part in self.parts(thing):
            found |= self.hung(part)
        return found

    def causes(self, thing):
        return sorted(other for other in self.hung(thing) if self.kinds[other] == "use" and other not in self.bound)

    def told_none(self, thing):
        row = [thing]
        while self.kinds[row[-1]] != "use" or row[-1] in self.bound:
            row.append([part for part in self.parts(row[-1]) if self.causes(part)][0])
        return ("none", tuple(row))

    def is_none_paper(self, thing, row):
        """Whether a tuple of stamps and roots is one."""
        if row[:1] != (thing,) or any(one not in self.view.line for one in row):
            return False
        if any(other not in self.parts(one) for one, other in zip(row, row[1:])):
            return False
        return self.kinds[row[-1]] == "use" and row[-1] not in self.bound

    # Polynomials: dicts from sorted tuples of variables to factors

    def polynomial(self, thing):
        kind = self.kinds[thing]
        if kind == "number":
            return {(thing,): 1}
        parts = [self.polynomial(part) for part in self.parts(thing)]
        if kind == "product":
            total = {(): 1}
            for part in parts:
                total = multiplied(total, part)
            return total
        total = {}
        for part in parts:
            total = added(total, part)
        return total

    def rows(self, things):
        """What the things hang on, as it ends, with the polynomials."""
        hung = set().union(*[self.hung(thing) for thing in things])
        return tuple((thing, told(self.polynomial(thing))) for thing in ending(self.view) if thing in hung)


def ending(view, thing=ROOT):
    return [other for part in view.plant.parts[thing] for other in ending(view, part)] + [thing]


def bounded(terms):
    terms = {variables: factor % BY for variables, factor in terms.items() if factor % BY}
    if len(terms) > 100 or any(variables.count(one) > 99 for variables in terms for one in set(variables)):
        raise Beyond
    return terms


def added(one, other):
    return bounded({variables: one.get(variables, 0) + other.get(variables, 0) for variables in {*one, *other}})


def multiplied(one, other):
    terms = {}
    for ahead, behind in itertools.product(one, other):
        variables = tuple(sorted(ahead + behind))
        terms[variables] = terms.get(variables, 0) + one[ahead] * other[behind]
    return bounded(terms)


def told(terms):
    return tuple(sorted(terms.items()))


def worth_at(polynomial, contents):
    total = 0
    for variables, factor in polynomial:
        for variable in variables:
            factor *= contents[variable]
        total += factor
    return total % BY


# Useless lets

def staying(view, lets):
    """The uses of which each let that they are below is one of these."""
    return [use for use in view.uses if all(let in lets for let in view.lets if use in view.plant.below(let))]


def needed_by(view, lets):
    return {view.bound[use] for use in staying(view, lets) if use in view.bound}


def fewest_needed(view):
    """The fewest lets that are just those needed, if just these are, by trying all lots."""
    for many in range(len(view.lets) + 1):
        for lot in itertools.combinations(view.lets, many):
            if needed_by(view, lot) == set(lot):
                return list(lot)
    return None


def told_pairs(view):
    """The pairs of needed lets and uses, by rounds."""
    pairs = []
    while True:
        lets = [let for let, _ in pairs]
        uses = [use for use in staying(view, lets) if use in view.bound]
        fresh = sorted({view.bound[use] for use in uses if view.bound[use] not in lets})
        if not fresh:
            return pairs
        pairs += [(let, min(use for use in uses if view.bound[use] == let)) for let in fresh]


def is_needed_paper(view, let, pairs):
    """Whether a tuple of pairs of stamps is one."""
    lets = [one for one, _ in pairs]
    if not lets or lets[-1] != let or len(set(lets)) != len(lets):
        return False
    for at, (one, use) in enumerate(pairs):
        if view.bound.get(use) != one or use not in staying(view, lets[:at]):
            return False
    return True


def is_useless_paper(view, let, lets):
    """Whether a tuple of stamps is one."""
    if let not in lets or list(lets) != sorted(set(lets)) or not set(lets) <= set(view.lets):
        return False
    inside = {thing for one in lets for thing in view.plant.below(one)}
    return all(use in inside for use, binder in view.bound.items() if binder in lets)
