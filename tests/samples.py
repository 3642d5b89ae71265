"""What the tests share: strict comparing, values of all kinds, and books made by a seeded generator."""

import random
import unittest

ROOT = (0, 0)
NOTHING = (0, 0, 0, 0)


class Likeness:
    """A value that says of itself that it equals all others."""

    def __eq__(self, other):
        return True

    def __hash__(self):
        return 0


# Values of all kinds. Few of them are a stamp, a name, a number or the like.
STRANGE = (
    None, True, False, 0, 1, -1, 7, 1.0, 10 ** 30, "", "a", "ab", "make", b"a", [], (), {}, set(), frozenset(),
    object(), Likeness(), (Likeness(), Likeness()), (1, Likeness()), (0, -1),
    (1,), (1, 0, 0), [1, 0], (True, 0), (1, False), (False, False), (1.0, 0), (1, 0.0), (-1, 0), (1, -1), (1, 4),
    (1000, 0), ("1", 0), (None, None), (1, [0]), ([1], 0), ((1, 0), 0), ((1, 0),), [(1, 0)], {(1, 0): True}, "(1, 0)",
    range(2), (1, None), (0, 1), (999, 3),
)


class Case(unittest.TestCase):
    """A test case that compares strictly: (1, 0) is not [1, 0], and 1 is not True."""

    maxDiff = None

    def tells(self, expected, got):
        """The repr also tells kinds of values and the order of dicts apart."""
        self.assertEqual(repr(got), repr(expected))

    def refused(self, error, told, call, *args, **named):
        """The call raises just this error, made of just this value."""
        with self.assertRaises(error) as caught:
            call(*args, **named)
        self.assertIs(error, caught.exception.__class__)
        got = caught.exception.told if hasattr(caught.exception, "told") else caught.exception.most
        self.assertEqual((got.__class__, repr(got)), (told.__class__, repr(told)))

    def refuses_stamps(self, error, call, book):
        """The call refuses whatever is no list or tuple of unlike stamps of the book, which has at least two."""
        self.refuses_rows(error, call, book.listed())
        self.refused(error, None, call, book)

    def refuses_rows(self, error, call, good, twice=False):
        """The call refuses whatever is no list or tuple of good stamps, unlike ones but where they may stand twice."""
        one, other = good[:2]
        for value in (None, True, False, 0, 1, "", "ab", {}, set(), {one: True}, object(), iter([one]), 1.0):
            self.refused(error, None, call, value)
        for value in STRANGE:
            if repr(value) not in [repr(stamp) for stamp in good]:
                self.refused(error, 0, call, [value])
                self.refused(error, 1, call, (one, value))
                self.refused(error, 1, call, [other, value, None, one])
        self.refused(error, 0, call, [ROOT])
        if not twice:
            self.refused(error, 1, call, [one, one])
            self.refused(error, 2, call, (one, other, one))


def deed(time, hand, seen, *body):
    """A deed; seen may be one time, then it is that of hand 0."""
    return ((time, hand), (seen, 0, 0, 0) if isinstance(seen, int) else seen, body)


def row_of_blocks(many):
    """The deeds of hand 0 that make so many blocks, times 1 and on."""
    return [deed(time, 0, time - 1, "make", "block", ROOT, 0, None) for time in range(1, many + 1)]


WRITTEN = {"let": "wish", "use": "point", "number": "set"}
HOLDERS = ("block", "let", "sum", "product")


def random_body(rng, known, table, hand):
    """A body that names only known stamps; most often one that could be done."""
    makes = [stamp for stamp in known if table[stamp][2][0] == "make"]
    holders = [stamp for stamp in makes if table[stamp][2][1] in HOLDERS]
    filled = [stamp for stamp in makes if table[stamp][2][1] in WRITTEN]
    wild = known + [ROOT]
    under = rng.choice(holders + [ROOT] if rng.random() < 0.95 else wild)
    thing = rng.choice((holders if rng.random() < 0.7 else makes) or wild) if rng.random() < 0.95 else rng.choice(wild)
    contents = {"let": rng.choice(["x", "y", "ab", "abcd"]), "use": rng.choice(makes + [ROOT, None]),
                "number": rng.randrange(3)}
    word = rng.choice(["make"] * 5 + ["move"] * 6 + ["drop"] + ["write"] * 4 + ["undo"] * 2 + ["redo"])
    if word == "make" or not known:
        kind = rng.choice(["block", "block", "let", "let", "sum", "product", "use", "number"])
        return ("make", kind, under, rng.randrange(4), contents.get(kind))
    if word == "move":
        return ("move", thing, under, rng.randrange(4))
    if word == "drop":
        return ("drop", thing)
    if word in ("undo", "redo"):
        own = [stamp for stamp in known if stamp[1] == hand] if rng.random() < 0.9 else known
        return (word, rng.choice(own or known))
    thing = rng.choice(filled or wild) if rng.random() < 0.95 else rng.choice(wild)
    kind = table[thing][2][1] if thing in filled else "let"
    return (WRITTEN[kind], thing, contents[kind])


def random_deeds(seed, many, hands=4, meeting=0.3):
    """The deeds, in the order in which they are done, of hands that now and then see what another one has seen."""
    rng = random.Random(seed)
    views = [list(NOTHING) for _ in range(hands)]
    table = {}
    for _ in range(many):
        hand = rng.randrange(hands)
        if rng.random() < meeting:
            views[hand] = [max(pair) for pair in zip(views[hand], rng.choice(views))]
        known = sorted(stamp for stamp in table if stamp[0] <= views[hand][stamp[1]])
        stamp = (max(views[hand]) + rng.choice([1, 1, 1, 2]), hand)
        table[stamp] = (stamp, tuple(views[hand]), random_body(rng, known, table, hand))
        views[hand][hand] = stamp[0]
    return list(table.values())
