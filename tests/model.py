"""The document's words done one by one, slowly and without the package, to compare the package with."""

ROOT = (0, 0)
HOLDERS = {"block", "let", "sum", "product"}
FILLS = {"wish": "let", "point": "use", "set": "number"}
MARKS = {"undo", "redo"}


class Model:
    """A set of deeds, without those of some stamps, the others staying."""

    def __init__(self, deeds, without=()):
        self.table = {deed[0]: deed for deed in sorted(deeds)}
        self.without = set(without)
        self.stamps = [stamp for stamp in self.table if stamp not in self.without]
        self.ordinary = [stamp for stamp in self.stamps if self.body(stamp)[0] not in MARKS]
        self.alive = [stamp for stamp in self.ordinary if self.is_alive(stamp)]
        self.play()

    def body(self, stamp):
        return self.table[stamp][2]

    def saw(self, one, other):
        return other[0] <= self.table[one][1][other[1]]

    def apart(self, one, other):
        return not self.saw(one, other) and not self.saw(other, one)

    def marks(self, stamp, upto=(1000, 0), but=None):
        """The marks that count for an ordinary deed, up to a stamp, but one."""
        return [mark for mark in self.stamps
                if self.body(mark)[0] in MARKS and self.body(mark)[1] == stamp and mark[1] == stamp[1]
                and mark <= upto and mark != but]

    def is_alive(self, stamp, upto=(1000, 0), but=None):
        marks = self.marks(stamp, upto, but)
        return not marks or self.body(marks[-1])[0] == "redo"

    def counts(self, stamp):
        return self.body(stamp)[0] in MARKS and stamp in self.marks(self.body(stamp)[1]) and \
            self.body(self.body(stamp)[1])[0] not in MARKS

    def turns(self, stamp):
        if not self.counts(stamp):
            return False
        named = self.body(stamp)[1]
        return self.is_alive(named, stamp) != self.is_alive(named, stamp, stamp)

    def since(self, stamp):
        turning = [mark for mark in self.marks(stamp) if self.turns(mark)]
        return turning[-1] if turning else stamp

    def line(self, hand):
        own = [stamp for stamp in self.ordinary if stamp[1] == hand]
        done = sorted([stamp for stamp in own if stamp in self.alive], key=self.since)
        last = max(own, default=None)
        undone = [stamp for stamp in own if stamp not in self.alive and self.since(stamp) > last]
        return tuple(done), tuple(sorted(undone, key=self.since, reverse=True))

    def below(self, thing):
        """All things below this one by the places as they are."""
        found = set()
        while True:
            more = {other for other, place in self.places.items()
                    if place is not None and (place[0] == thing or place[0] in found)}
            if more == found:
                return found
            found = more

    def play(self):
        self.kinds, self.contents, self.places, self.placer = {ROOT: "block"}, {ROOT: None}, {ROOT: None}, {}
        self.rows = []
        for stamp in self.alive:
            self.rows.append((stamp, *self.do(stamp)))
        self.outcomes = {row[0]: row[1] for row in self.rows}

    def do(self, stamp):
        word, *rest = self.body(stamp)
        holds = [thing for thing, kind in self.kinds.items() if kind in HOLDERS]
        if word == "make":
            kind, under, key, content = rest
            if under not in holds:
                return "gone", ()
            self.kinds[stamp], self.contents[stamp] = kind, content
            self.places[stamp], self.placer[stamp] = (under, key, stamp), stamp
            return "done", ()
        thing = rest[0]
        if thing not in self.kinds:
            return "gone", ()
        if word in FILLS:
            if self.kinds[thing] != FILLS[word]:
                return "gone", ()
            self.contents[thing] = rest[1]
            return "done", ()
        if thing == ROOT or (word == "move" and rest[1] not in holds):
            return "gone", ()
        if word == "drop":
            self.places[thing], self.placer[thing] = None, stamp
            return "done", ()
        chain = self.chain(thing, rest[1])
        if rest[1] == thing or rest[1] in self.below(thing):
            return "ring", chain
        self.places[thing], self.placer[thing] = (rest[1], rest[2], stamp), stamp
        return "done", chain

    def chain(self, thing, under):
        if under == ROOT:
            return ()
        if under == thing:
            return ((thing, None),)
        pair = (under, self.placer[under])
        return (pair,) if self.places[under] is None else (pair, *self.chain(thing, self.places[under][0]))

    def under(self, thing):
        placed = [(place[1:], other) for other, place in self.places.items() if place is not None and place[0] == thing]
        return [other for _, other in sorted(placed)]

    def begin(self, thing):
        return [other for part in self.under(thing) for other in [part, *self.begin(part)]]

    def end(self, thing):
        return [other for part in self.under(thing) for other in [*self.end(part), part]]

    def slot(self, stamp):
        word, *rest = self.body(stamp)
        if word == "make":
            return ("place", stamp)
        return ("place" if word in ("move", "drop") else word, rest[0])

    def writes(self, stamp):
        word, *rest = self.body(stamp)
        return {"make": rest[1:3], "move": rest[1:3], "drop": None}.get(word, rest[1:2])

    def done(self, slot):
        return [stamp for stamp in self.alive if self.outcomes[stamp] == "done" and self.slot(stamp) == slot]

    def rivals(self, slot):
        done = self.done(slot)
        return [stamp for stamp in done if not [other for other in done if self.saw(other, stamp)]]

    def fate(self, stamp):
        if stamp not in self.alive:
            return ("undone", self.marks(stamp)[-1])
        if self.outcomes[stamp] == "gone":
            return ("gone", None)
        if self.outcomes[stamp] == "ring":
            chain = [row for row in self.rows if row[0] == stamp][0][2]
            return ("ring", max([mark for _, mark in chain if mark and self.apart(mark, stamp)], default=None))
        behind = [other for other in self.done(self.slot(stamp)) if other > stamp]
        if not behind:
            return ("stands", None)
        return ("replaced" if self.saw(behind[0], stamp) else "overruled", behind[0])

    def named(self, stamp):
        """Thing and under, so far as the body has them."""
        word, *rest = self.body(stamp)
        return {"make": rest[1:2], "move": rest[0:2]}.get(word, rest[0:1])

    def missing(self, stamp):
        return [name for name in self.named(stamp)
                if name != ROOT and self.body(name)[0] == "make" and name not in self.kinds]

    def gone_by_kind(self, stamp):
        word, *rest = self.body(stamp)
        if any(name != ROOT and self.body(name)[0] != "make" for name in self.named(stamp)):
            return True
        if word in ("move", "drop") and rest[0] == ROOT:
            return True
        if word in ("make", "move") and rest[1] in self.kinds and self.kinds[rest[1]] not in HOLDERS:
            return True
        return word in FILLS and rest[0] in self.kinds and self.kinds[rest[0]] != FILLS[word]

    def is_gone_paper(self, stamps):
        """Whether a tuple, not empty, of stamps of deeds is one."""
        if stamps[0] not in self.ordinary or stamps[0] not in self.alive:
            return False
        for one, other in zip(stamps, stamps[1:]):
            if one not in self.alive or other not in self.missing(one):
                return False
        last = stamps[-1]
        return last in self.ordinary and (last not in self.alive or self.gone_by_kind(last))

    def told_gone_paper(self, stamp):
        stamps = [stamp]
        while stamps[-1] in self.alive and self.missing(stamps[-1]):
            stamps.append(self.missing(stamps[-1])[0])
        return ("gone", tuple(stamps))
