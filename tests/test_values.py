"""Point [19] and section values.py."""

import itertools
import random

from sharedscopes.books import Book
from sharedscopes.errors import NoState, NoThing
from sharedscopes.reading import made_of
from sharedscopes.states import State
from sharedscopes.values import accepts_none, causes_of, does_hang, none_paper, parts_of, value_of, values_of
from tests.model import Model
from tests.programs import drawn, scattered, tangled
from tests.samples import ROOT, STRANGE, Case, Likeness, random_deeds
from tests.views import View
from tests.worths import Worth

EMPTY = State(Book())

# The let (1, 0) of the number (2, 0); the sum (3, 0) of the uses (4, 0), (6, 0) and of (5, 0); the use (7, 0) at the end.
SMALL = State(made_of("(x = 7) (+ x 5 x) x"))


def worth(text):
    return value_of(State(made_of(text)), ROOT)


class ValueTest(Case):
    def test_numbers_and_uses(self):
        for text, value in {"": 0, "0": 0, "99": 99, "1 2": 2, "?": None, "(x = 5) x": 5, "(x =) x": 0, "(x = ?) x": None,
                            "(x = 5) (y = x) y": 5, "(x = 5 6) x": 6, "(x = ?) 3": 3}.items():
            self.tells(value, worth(text))

    def test_the_last_thing_that_is_no_let(self):
        for text, value in {"()": 0, "(1 2)": 2, "(1 (x = 2))": 1, "((x = 2))": 0, "(x = 2)": 0, "(x = 2) (y = 3)": 0,
                            "7 (x = 2) (y = 3)": 7, "(? 4)": 4, "(4 ?)": None, "(4 ? (x =))": None, "(x = (y = 1)) x": 0,
                            "(x = 1 (y = 2)) x": 1, "((()))": 0, "(((3)))": 3}.items():
            self.tells(value, worth(text))

    def test_sums_and_products(self):
        for text, value in {"(+)": 0, "(*)": 1, "(+ 1 2 3)": 6, "(* 2 3 4)": 24, "(+ (x = 5) 2)": 2, "(* (x = 5) 2)": 2,
                            "(+ (x = 5))": 0, "(* (x = 5))": 1, "(+ 1 ?)": None, "(* 0 ?)": None, "(+ (x = ?) 3)": 3,
                            "(+ (*) (*))": 2, "(* (+))": 0, "(+ () (1 2))": 2, "(* () 5)": 0, "(x = 9) (* x x)": 81}.items():
            self.tells(value, worth(text))

    def test_remainders(self):
        self.tells(9972, worth("(+ (* 99 99) (* 57 3))"))
        self.tells(0, worth("(+ (* 99 99) (* 43 4))"))
        self.tells(1, worth("(+ (* 99 99) (* 43 4) 1)"))
        self.tells(99 ** 5 % 9973, worth("(* 99 99 99 99 99)"))
        self.tells(99 ** 32 % 9973, worth("(a = (* 99 99)) (b = (* a a)) (c = (* b b)) (d = (* c c)) (* d d)"))

    def test_things(self):
        self.tells({ROOT: 7, (1, 0): 7, (2, 0): 7, (3, 0): 19, (4, 0): 7, (5, 0): 5, (6, 0): 7, (7, 0): 7},
                   values_of(SMALL))
        self.tells({ROOT: 0}, values_of(state=EMPTY))
        self.tells(19, value_of(state=SMALL, thing=(3, 0)))

    def test_in_the_order_of_the_line(self):
        state = State(made_of("1 2 3").followed(0, [("move", (1, 0), ROOT, 9)]))
        self.tells({ROOT: 1, (2, 0): 2, (3, 0): 3, (1, 0): 1}, values_of(state))

    def test_what_is_out_counts_for_nothing(self):
        book = made_of("(x = 5) x").followed(0, [("drop", (1, 0))])
        self.tells({ROOT: None, (3, 0): None}, values_of(State(book)))
        self.refused(NoThing, (2, 0), value_of, State(book), (2, 0))

    def test_no_wish_matters(self):
        one = made_of("(x = 5) (y = x) (+ x y)")
        other = one.followed(2, [("wish", (1, 0), "y"), ("wish", (3, 0), "q")])
        self.tells(values_of(State(one)), values_of(State(other)))


class PartsTest(Case):
    def test_parts(self):
        self.tells([(1, 0)], parts_of(SMALL, (4, 0)))
        self.tells([(4, 0), (5, 0), (6, 0)], parts_of(SMALL, (3, 0)))
        self.tells([(2, 0)], parts_of(SMALL, (1, 0)))
        self.tells([], parts_of(SMALL, (2, 0)))
        self.tells([(7, 0)], parts_of(state=SMALL, thing=ROOT))
        self.tells([], parts_of(EMPTY, ROOT))
        self.tells([], parts_of(State(made_of("?")), (1, 0)))
        self.tells([], parts_of(State(made_of("((x = 1))")), (1, 0)))
        moved = made_of("(+ (x = 1) 3)").followed(0, [("move", (3, 0), (1, 0), 0)])
        self.tells([(3, 0), (4, 0)], parts_of(State(moved), (1, 0)))
        self.tells([], parts_of(State(moved), (2, 0)))

    def test_in_order(self):
        book = made_of("(* 1 2 3)").followed(0, [("move", (2, 0), (1, 0), 9)])
        self.tells([(3, 0), (4, 0), (2, 0)], parts_of(State(book), (1, 0)))

    def test_new_lists(self):
        parts_of(SMALL, (3, 0)).clear()
        self.tells([(4, 0), (5, 0), (6, 0)], parts_of(SMALL, (3, 0)))
        values_of(SMALL).clear()
        self.assertEqual(8, len(values_of(SMALL)))

    def test_hanging(self):
        hung = {ROOT: [ROOT, (7, 0), (1, 0), (2, 0)], (3, 0): [(3, 0), (4, 0), (5, 0), (6, 0), (1, 0), (2, 0)],
                (7, 0): [(7, 0), (1, 0), (2, 0)], (5, 0): [(5, 0)], (1, 0): [(1, 0), (2, 0)]}
        for one, others in hung.items():
            for other in SMALL.line():
                self.assertIs(other in others, does_hang(SMALL, one, other))
        self.assertIs(True, does_hang(state=EMPTY, one=ROOT, other=ROOT))

    def test_things_hang_on_themselves(self):
        state = State(made_of("? (x =) x"))
        for thing in state.line():
            self.assertIs(True, does_hang(state, thing, thing))


class NoneTest(Case):
    # The lost uses (3, 0), (6, 0) and (7, 0); the first is ahead of what counts.
    STATE = State(made_of("(x = (? 4) (+ ? ? 5)) (* 2 x)"))

    def test_causes(self):
        self.tells([(6, 0), (7, 0)], causes_of(self.STATE, ROOT))
        self.tells([(6, 0), (7, 0)], causes_of(state=self.STATE, thing=(1, 0)))
        self.tells([], causes_of(self.STATE, (2, 0)))
        self.tells([(3, 0)], causes_of(self.STATE, (3, 0)))
        self.tells([], causes_of(EMPTY, ROOT))

    def test_causes_ascending(self):
        moved = made_of("(+ ? ?)").followed(0, [("move", (2, 0), (1, 0), 9)])
        self.tells([(2, 0), (3, 0)], causes_of(State(moved), ROOT))

    def test_told_papers(self):
        self.tells(("none", (ROOT, (9, 0), (11, 0), (1, 0), (5, 0), (6, 0))), none_paper(self.STATE, ROOT))
        self.tells(("none", ((5, 0), (6, 0))), none_paper(state=self.STATE, thing=(5, 0)))
        self.tells(("none", ((3, 0),)), none_paper(self.STATE, (3, 0)))
        self.tells(None, none_paper(self.STATE, (2, 0)))
        self.tells(None, none_paper(EMPTY, ROOT))
        # In the order of the parts, not of the stamps.
        moved = made_of("(+ ? ?)").followed(0, [("move", (2, 0), (1, 0), 9)])
        self.tells(("none", ((1, 0), (3, 0))), none_paper(State(moved), (1, 0)))

    def test_papers_of_others(self):
        self.assertIs(True, accepts_none(self.STATE, ROOT, ("none", (ROOT, (9, 0), (11, 0), (1, 0), (5, 0), (7, 0)))))
        self.assertIs(True, accepts_none(state=self.STATE, thing=(7, 0), value=("none", ((7, 0),))))
        self.assertIs(True, accepts_none(self.STATE, (5, 0), ("none", ((5, 0), (7, 0)))))

    def test_bent_papers(self):
        row = ((5, 0), (6, 0))
        for value in (("none", ()), ("none", row[:1]), ("none", row[1:]), ("none", list(row)), ["none", row],
                      ("none", row, None), ("none",), (None, row), ("gone", row), (b"none", row), row, ("none", row + row),
                      ("none", ((5, 0), (8, 0))), ("none", ((5, 0), (3, 0))), ("none", ((1, 0), (5, 0), (6, 0))),
                      ("none", ((5, 0), (9, 9))), ("none", ((5, 0), None)), ("none", ((5, 0), [6, 0])), ("none", "ab"),
                      ("none", ((5, False), (6, 0))), ("none", ((5, 0), (6, False))), ("none", ((5, 0), Likeness())),
                      ("none", ((5, 0), (6, 0), (6, 0))), ("none", (ROOT, (5, 0), (6, 0))), (Likeness(), row), *STRANGE):
            self.assertIs(False, accepts_none(self.STATE, (5, 0), value), value)
        self.assertIs(False, accepts_none(self.STATE, (2, 0), ("none", ((2, 0), (3, 0)))))
        self.assertIs(False, accepts_none(SMALL, ROOT, ("none", (ROOT, (7, 0)))))


class WrongTest(Case):
    def test_no_state(self):
        for value in (*STRANGE, made_of("1"), State):
            for call in (value_of, parts_of, causes_of, none_paper):
                self.refused(NoState, value, call, value, None)
            self.refused(NoState, value, does_hang, value, None, None)
            self.refused(NoState, value, values_of, value)
            self.refused(NoState, value, accepts_none, value, None, None)

    def test_no_thing(self):
        out = State(made_of("(x = 7) (+ x 5 x) x").followed(0, [("drop", (3, 0)), ("undo", (7, 0))]))
        for state in (SMALL, out):
            for value in (*STRANGE, (8, 0), (9, 0), (3, 0), (4, 0), (7, 0), (2, 1)):
                if not state.is_in(value):
                    for call in (value_of, parts_of, causes_of, none_paper):
                        self.refused(NoThing, value, call, state, value)
                    self.refused(NoThing, value, does_hang, state, value, None)
                    self.refused(NoThing, value, does_hang, state, ROOT, value)
                    self.refused(NoThing, value, accepts_none, state, value, None)


class RandomTest(Case):
    def cases(self):
        wild = ((State(Book(deeds)), View(Model(deeds)))
                for deeds in [random_deeds(seed, 45, hands=seed % 4 + 1, meeting=0.6) for seed in range(30)])
        for seed, (state, view) in enumerate(itertools.chain(drawn(120, 22), tangled(20, 20), scattered(30), wild)):
            yield random.Random(seed), state, Worth(view)

    def test_as_the_document_says(self):
        nones = 0
        for rng, state, known in self.cases():
            self.tells({thing: known.value(thing) for thing in known.view.line}, values_of(state))
            for thing in known.view.line:
                self.tells(known.value(thing), value_of(state, thing))
                self.tells(known.parts(thing), parts_of(state, thing))
                self.tells(known.causes(thing), causes_of(state, thing))
                hung = known.hung(thing)
                for other in rng.sample(known.view.line, min(4, len(known.view.line))):
                    self.assertIs(other in hung, does_hang(state, thing, other))
                # The value is None exactly if there are causes.
                self.assertEqual(known.value(thing) is None, bool(causes_of(state, thing)))
                nones += known.value(thing) is None
        self.assertGreater(nones, 100)

    def test_papers(self):
        found = 0
        for rng, state, known in self.cases():
            for thing in known.view.line:
                paper = none_paper(state, thing)
                if not known.causes(thing):
                    self.tells(None, paper)
                    continue
                self.tells(known.told_none(thing), paper)
                self.assertIs(True, accepts_none(state, thing, paper))
                for _ in range(4):
                    bent = [thing]
                    while known.parts(bent[-1]):
                        bent.append(rng.choice(known.parts(bent[-1])))
                    if rng.random() < 0.3:
                        at = rng.randrange(len(bent))
                        bent[at:at + rng.choice([0, 1])] = [rng.choice(known.view.line)] * rng.choice([0, 1])
                    right = known.is_none_paper(thing, tuple(bent))
                    found += right and tuple(bent) != paper[1]
                    self.assertIs(right, accepts_none(state, thing, ("none", tuple(bent))))
        self.assertGreater(found, 5)

    def test_values_hang_on_nothing_but_what_they_hang_on(self):
        for rng, state, known in self.cases():
            numbers = [thing for thing in known.view.line if known.kinds[thing] == "number"]
            if numbers:
                one = rng.choice(numbers)
                other = Worth(known.view, {one: (known.contents[one] + 1) % 100})
                for thing in known.view.line:
                    if not does_hang(state, thing, one):
                        self.tells(other.value(thing), value_of(state, thing))
