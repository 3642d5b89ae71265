"""Point [17] and section writing.py."""

import itertools
import random

from sharedscopes.books import Book
from sharedscopes.errors import NoNaming, NoState, NoWeights
from sharedscopes.grammar import is_text
from sharedscopes.meets import is_right
from sharedscopes.namings import mended_naming, plain_naming, told_naming
from sharedscopes.reading import made_of, read_shape
from sharedscopes.states import State
from sharedscopes.writing import are_alike, shape_of, text_by, text_of
from tests.model import Model
from tests.programs import drawn, random_text, scattered, tangled
from tests.samples import ROOT, STRANGE, Case, random_deeds
from tests.views import View

TEXT = "(x = 5 ?) ((x = (*) x) x) (+ x 0) () (y =)"
STATE = State(made_of(TEXT))
X, INNER, Y = (1, 0), (5, 0), (13, 0)


class TextTest(Case):
    def test_texts(self):
        self.tells("", text_by(State(Book()), {}))
        self.tells("", text_of(State(Book())))
        for text in ("0", "99", "?", "()", "(+)", "(*)", "(x =)", "(x = 1)", "(x =) x", "((()) (+ (*) 1))", TEXT):
            self.tells(text, text_of(state=State(made_of(text))))

    def test_by_a_naming(self):
        self.tells(INNER, STATE.under((4, 0))[0])
        naming = {X: "a1", INNER: "b", Y: "cdef99"}
        self.tells("(a1 = 5 ?) ((b = (*) a1) b) (+ a1 0) () (cdef99 =)", text_by(STATE, naming))
        self.tells("(a = 5 ?) ((a = (*) a) a) (+ a 0) () (a =)", text_by(state=STATE, naming={let: "a" for let in naming}))

    def test_by_a_wrong_naming(self):
        state = State(made_of("(x =) (y =) x"))
        naming = {(1, 0): "a", (2, 0): "a"}
        self.assertFalse(is_right(state, naming))
        self.tells("(a =) (a =) a", text_by(state, naming))

    def test_lost_uses(self):
        book = made_of("(x = ?) x x").followed(0, [("point", (2, 0), (1, 0)), ("point", (3, 0), None)])
        self.tells("(x = ?) ? x", text_of(State(book)))
        self.tells("(x = ?) ? ?", text_of(State(book.followed(0, [("point", (4, 0), ROOT)]))))
        self.tells("? ?", text_of(State(book.followed(0, [("drop", (1, 0))]))))

    def test_in_order(self):
        self.tells("2 3 1", text_of(State(made_of("1 2 3").followed(0, [("move", (1, 0), ROOT, 2)]))))

    def test_weights(self):
        state = State(made_of("(x = 1) (y = 2) x").followed(0, [("wish", (3, 0), "x")]))
        self.tells("(x1 = 1) (x = 2) x1", text_of(state))
        self.tells("(x = 1) (x1 = 2) x", text_of(state, {(1, 0): 3}))
        self.tells("(x = 1) (x1 = 2) x", text_of(state=state, weights={(1, 0): 3}))

    def test_wrong_values(self):
        for value in (*STRANGE, made_of("1")):
            self.refused(NoState, value, text_by, value, None)
            self.refused(NoState, value, text_of, value, 5)
            self.refused(NoState, value, shape_of, value)
            self.refused(NoState, value, are_alike, value, None)
            self.refused(NoState, value, are_alike, STATE, value)
        for value in (*STRANGE, {X: "a"}, {X: "a", INNER: "b", Y: "c0"}, {X: "a", INNER: "b", Y: "c", (9, 0): "d"}):
            self.refused(NoNaming, value, text_by, STATE, value)
        for value in ({X: 0}, {(2, 0): 1}, {X: 100}, 0, [], "x", {X: True}):
            self.refused(NoWeights, value, text_of, STATE, value)


class ShapeTest(Case):
    def test_shapes(self):
        self.tells((), shape_of(State(Book())))
        self.tells(read_shape(TEXT), shape_of(state=STATE))
        self.tells((("let", (("number", 5), ("lost",))), ("block", (("let", (("product", ()), ("use", 0))), ("use", 1))),
                    ("sum", (("use", 0), ("number", 0))), ("block", ()), ("let", ())), shape_of(STATE))

    def test_lets_are_counted_as_they_begin(self):
        book = made_of("(x =) (y =) x y").followed(0, [("move", (1, 0), ROOT, 1)])
        self.tells((("let", ()), ("let", ()), ("use", 1), ("use", 0)), shape_of(State(book)))

    def test_alike(self):
        other = State(made_of("(a1 = 5 ?) ((b = (*) a1) b) (+ a1 0) () (b =)").followed(3, [("set", (2, 0), 5)]))
        self.assertIs(True, are_alike(STATE, other))
        self.assertIs(True, are_alike(one=STATE, other=STATE))
        for text in ("", "(x = 6 ?) ((x = (*) x) x) (+ x 0) () (y =)", "(x = 5 ?) ((y = (*) x) x) (+ x 0) () (y =)",
                     "(x = 5 ?) ((x = (*) x) x) (* x 0) () (y =)", "(x = 5 ?) ((x = (*) x) x) (+ x 0) () ()",
                     "(x = 5 ?) ((x = (*) x) x) (+ x 0) (y =) ()", "(x = 5 ?) ((x = (*) x) x) (+ ? 0) () (y =)"):
            self.assertIs(False, are_alike(STATE, State(made_of(text))), text)


class RandomTest(Case):
    def cases(self):
        wild = ((State(Book(deeds)), View(Model(deeds)))
                for deeds in [random_deeds(seed, 40, hands=seed % 4 + 1, meeting=0.6) for seed in range(20)])
        for seed, (state, view) in enumerate(itertools.chain(drawn(60, 20), tangled(50, 20), scattered(40), wild)):
            yield random.Random(seed), state, view

    def namings(self, rng, state, view):
        weights = {let: rng.choice([1, 2, 99]) for let in view.lets if rng.random() < 0.5}
        old = {let: rng.choice(["x", "y", "y1", "n1"]) for let in view.lets if rng.random() < 0.7}
        yield told_naming(state)
        yield told_naming(state, weights)
        yield plain_naming(state)
        yield mended_naming(state, old, weights)[0]
        yield {let: f"{rng.choice('xy')}{at + 1}" for at, let in enumerate(view.lets)}
        for names in (["x", "y", "x1", "y99"], ["x", "abcd"]):
            yield {let: rng.choice(names) for let in view.lets}

    def test_texts_and_shapes(self):
        for rng, state, view in self.cases():
            self.tells(view.shape(), shape_of(state))
            for naming in self.namings(rng, state, view):
                text = text_by(state, naming)
                self.tells(view.text(naming), text)
                self.assertTrue(is_text(text))
            self.tells(view.text(told_naming(state)), text_of(state))

    def test_by_right_namings_they_are_read_as_their_shape(self):
        right = wrong = 0
        for rng, state, view in self.cases():
            for naming in self.namings(rng, state, view):
                is_read = read_shape(text_by(state, naming)) == shape_of(state)
                self.assertIs(is_right(state, naming), is_read)
                right, wrong = right + is_read, wrong + (not is_read)
            again = State(made_of(text_of(state)))
            self.assertTrue(are_alike(state, again))
        self.assertTrue(right > 500 and wrong > 50, (right, wrong))

    def test_texts_without_numbers_are_told_as_they_are(self):
        found = 0
        for seed in range(200):
            text = random_text(seed, 20)
            for old, new in (("x1", "xa"), ("x2", "xb"), ("y99", "yc")):
                text = text.replace(old, new)
            found += " (" in text
            self.tells(text, text_of(State(made_of(text))))
            self.tells(read_shape(text), shape_of(State(made_of(text))))
        self.assertGreater(found, 100)

    def test_alike_are_those_of_one_shape(self):
        states = [state for state, _ in drawn(40, 4)]
        for one, other in itertools.product(states, repeat=2):
            self.assertIs(shape_of(one) == shape_of(other), are_alike(one, other))
