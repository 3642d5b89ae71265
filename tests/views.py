"""The document's words on what a state shows, one by one, slowly and without the package, on top of the model."""

import itertools

from tests.model import HOLDERS, ROOT

MOVED = (10000, 0)


class Plant:
    """A tree: what is under each thing, in order. What is not come to from the root is not in."""

    def __init__(self, parts, kinds):
        self.parts = {thing: list(under) for thing, under in parts.items()}
        self.kinds = kinds
        self.line = [ROOT, *self.below(ROOT)]
        self.lets = sorted(thing for thing in self.line if kinds[thing] == "let")
        self.scopes = {let: self.scope(let) for let in self.lets}

    def below(self, thing):
        return [other for part in self.parts.get(thing, []) for other in [part, *self.below(part)]]

    def scope(self, thing):
        """All later things under the same thing, and what is below these."""
        beside = [under for under in self.parts.values() if thing in under][0]
        return [other for part in beside[beside.index(thing) + 1:] for other in [part, *self.below(part)]]

    def visible(self, thing):
        """The lets in whose scope the thing is; the one that begins last is the nearest."""
        seen = [let for let in self.lets if thing in self.scopes[let]]
        return sorted(seen, key=self.line.index, reverse=True)

    def nearest(self, thing):
        return (self.visible(thing) or [None])[0]

    def rank(self, let):
        return len(self.visible(let)), let


class View:
    """What a state shows."""

    def __init__(self, model):
        self.kinds = model.kinds
        self.contents = model.contents
        self.places = model.places
        self.plant = Plant({thing: model.under(thing) for thing in model.kinds}, model.kinds)
        self.line = self.plant.line
        self.lets = self.plant.lets
        self.uses = [thing for thing in self.line if self.kinds[thing] == "use"]
        self.told = {use: self.tell(use) for use in self.uses}
        self.bound = {use: told[1] for use, told in self.told.items() if told[0] == "bound"}

    def tell(self, use):
        binder = self.contents[use]
        if binder is None:
            return ("none",)
        if binder not in self.lets:
            return ("gone",)
        return ("bound", binder) if use in self.plant.scopes[binder] else ("out",)

    # Gaps

    def rest(self, thing):
        """The tree without the thing and what is below it."""
        gone = {thing, *self.plant.below(thing)}
        parts = {one: [part for part in under if part not in gone]
                 for one, under in self.plant.parts.items() if one not in gone}
        return Plant(parts, self.kinds)

    def gaps(self, plant):
        """All gaps of a tree, by how many things begin ahead of each, and the inner ones first."""
        found = []
        for under in plant.line:
            if self.kinds[under] in HOLDERS:
                found.extend((under, place) for place in range(len(plant.parts[under]) + 1))
        depth = {thing: sum(thing in plant.below(other) for other in plant.line) for thing in plant.line}

        def order(gap):
            at = self.planted(plant, gap, "block").line.index(MOVED)
            return at, -depth[gap[0]]

        return sorted(found, key=order)

    def planted(self, plant, gap, kind, below=None):
        """The tree with a new thing at the gap."""
        parts = {one: list(under) for one, under in plant.parts.items()}
        parts[gap[0]].insert(gap[1], MOVED)
        return Plant({**parts, **(below or {})}, {**self.kinds, MOVED: kind})

    def demands(self, thing):
        rest = self.rest(thing)
        inner = [thing, *self.plant.below(thing)]
        found = [use for use in inner if self.kinds[use] == "use" and self.contents[use] in rest.lets]
        if self.kinds[thing] == "let":
            found += [use for use in rest.line if self.kinds[use] == "use" and self.contents[use] == thing]
        return sorted(found)

    def kept(self, thing, gap):
        """The demands that are bound where the thing, as MOVED, is put at the gap."""
        rest = self.rest(thing)
        inner = {MOVED if one == thing else one: under for one, under in self.plant.parts.items()
                 if one in [thing, *self.plant.below(thing)]}
        plant = self.planted(rest, gap, self.kinds[thing], inner)
        kept = []
        for use in self.demands(thing):
            binder = MOVED if self.contents[use] == thing else self.contents[use]
            if (MOVED if use == thing else use) in plant.scopes[binder]:
                kept.append(use)
        return kept

    def keys(self, thing, gap):
        """The least and the greatest key for which just the things ahead have no greater one."""
        beside = self.rest(thing).parts[gap[0]]
        good = [key for key in range(1000)
                if [part for part in beside if self.places[part][1] <= key] == beside[:gap[1]]]
        return (good[0], good[-1]) if good else None

    def odds(self, thing, one, other):
        return one != other and not any({one, other} <= set(self.kept(thing, gap)) for gap in self.gaps(self.rest(thing)))

    def told_groups(self, thing, order=None):
        """The told groups; or those by another order of the demands."""
        rest = self.rest(thing)
        demands = self.demands(thing)
        first = [use for use in demands if use in rest.line]
        others = sorted([use for use in demands if use not in rest.line],
                        key=lambda use: (rest.rank(self.contents[use]), use))
        kept = [set(self.kept(thing, gap)) for gap in self.gaps(rest)]
        groups = []
        for use in order or first + others:
            for group in groups:
                if not any({use, other} <= row for other in group for row in kept):
                    group.append(use)
                    break
            else:
                groups.append([use])
        return tuple(sorted(tuple(sorted(group)) for group in groups))

    # Names

    def live(self, let):
        points = {let}
        for use, binder in self.bound.items():
            if binder == let:
                seen = self.plant.visible(use)
                points |= set(seen[:seen.index(let)])
        return points

    def meet(self, one, other):
        return bool(self.live(one) & self.live(other))

    def ranked(self):
        return sorted(self.lets, key=self.plant.rank)

    def read(self, naming, use):
        for let in self.plant.visible(use):
            if naming[let] == naming[self.bound[use]]:
                return let

    def caught(self, naming):
        return [(use, self.read(naming, use)) for use in self.bound if self.read(naming, use) != self.bound[use]]

    # Lots

    def clear_lots(self, lets):
        """All clear lots of the lets; two by two is asked once."""
        apart = {(one, other) for one in lets for other in lets if one == other or not self.meet(one, other)}
        for many in range(len(lets) + 1):
            for lot in itertools.combinations(sorted(lets), many):
                if all(pair in apart for pair in itertools.combinations(lot, 2)):
                    yield lot

    def best_lots(self, lets, weights):
        lots = list(self.clear_lots(lets))
        worth = [sum(weights.get(let, 1) for let in lot) for lot in lots]
        return [lot for lot, many in zip(lots, worth) if many == max(worth)], max(worth)

    def told_lot(self, lets, weights):
        live = {let: self.live(let) for let in self.lets}
        ranked = [let for let in self.ranked() if let in lets]
        numbers = {}
        for let in reversed(ranked):
            numbers[let] = max(0, weights.get(let, 1) - sum(y for one, y in numbers.items() if one in live[let]))
        taken = []
        for let in ranked:
            if numbers[let] > 0 and not any(live[let] & live[other] for other in taken):
                taken.append(let)
        return ("most", tuple(sorted(taken)), {let: numbers[let] for let in sorted(numbers) if numbers[let] > 0})

    def is_most_paper(self, lets, weights, taken, numbers):
        """Whether a tuple of stamps and a dict from stamps to numbers make a right paper."""
        if list(taken) != sorted(set(taken)) or not set(taken) <= set(lets) or not set(numbers) <= set(self.lets):
            return False
        if any(self.meet(one, other) for one, other in itertools.combinations(taken, 2)):
            return False
        if any(number <= 0 for number in numbers.values()):
            return False
        for let in lets:
            if sum(numbers.get(point, 0) for point in self.live(let)) < weights.get(let, 1):
                return False
        return sum(numbers.values()) == sum(weights.get(let, 1) for let in taken)

    # Namings

    def told_naming(self, weights):
        naming = {}
        for wish in {self.contents[let] for let in self.lets}:
            lets = [let for let in self.lets if self.contents[let] == wish]
            taken = self.told_lot(lets, weights)[1]
            numbers = {}
            for let in self.ranked():
                if let in lets and let not in taken:
                    near = {numbers[other] for other in numbers if self.meet(let, other)}
                    numbers[let] = min(set(range(1, 100)) - near)
            naming.update({let: wish for let in taken})
            naming.update({let: f"{wish}{number}" for let, number in numbers.items()})
        return {let: naming[let] for let in sorted(naming)}

    def plain_naming(self):
        numbers = {}
        for let in self.ranked():
            near = {numbers[other] for other in numbers if self.meet(let, other)}
            numbers[let] = min(set(range(1, 100)) - near)
        return {let: f"n{numbers[let]}" for let in sorted(numbers)}

    def mended(self, old, weights):
        naming = {}
        for name in set(old.values()):
            for let in self.told_lot([let for let in old if old[let] == name], weights)[1]:
                naming[let] = name
        for let in self.ranked():
            if let not in naming:
                wish = self.contents[let]
                near = {naming[other] for other in naming if self.meet(let, other)}
                names = [wish, *(f"{wish}{number}" for number in range(1, 100))]
                naming[let] = [name for name in names if name not in near][0]
        return {let: naming[let] for let in sorted(naming)}, sorted(let for let in old if naming[let] != old[let])

    def fewest_colours(self, lets):
        """With how many names, at least, no two of the lets that meet have one, by trying all ways."""
        if not lets:
            return 0
        near = {let: [other for other in lets if other != let and self.meet(let, other)] for let in lets}
        for many in range(1, len(lets) + 1):
            for tried in itertools.product(range(many), repeat=len(lets)):
                given = dict(zip(lets, tried))
                if all(given[let] != given[other] for let in lets for other in near[let]):
                    return many
        return None

    # Texts

    def text(self, naming, thing=ROOT):
        shown = []
        for part in self.plant.parts[thing]:
            kind = self.kinds[part]
            inner = self.text(naming, part)
            if kind == "number":
                shown.append(str(self.contents[part]))
            elif kind == "use":
                shown.append(naming[self.bound[part]] if part in self.bound else "?")
            elif kind == "block":
                shown.append(f"({inner})")
            else:
                head = {"sum": "(+", "product": "(*"}.get(kind) or f"({naming[part]} ="
                shown.append(f"{head} {inner})" if inner else f"{head})")
        return " ".join(shown)

    def shape(self, thing=ROOT):
        counted = [let for let in self.line if self.kinds[let] == "let"]
        rows = []
        for part in self.plant.parts[thing]:
            kind = self.kinds[part]
            if kind == "number":
                rows.append((kind, self.contents[part]))
            elif kind == "use":
                rows.append(("use", counted.index(self.bound[part])) if part in self.bound else ("lost",))
            else:
                rows.append((kind, self.shape(part)))
        return tuple(rows)
