"""Point [21] and section alike.py."""

import itertools
import random

from sharedscopes.alike import (accepts_alike, alike_paper, are_always, choices_of, polynomial_of, profile_of, spare_by,
                                witness_of)
from sharedscopes.books import Book
from sharedscopes.errors import HasCause, NoState, NoThing, TooMany
from sharedscopes.polynomials import is_polynomial, value_at
from sharedscopes.reading import made_of
from sharedscopes.states import State
from sharedscopes.values import value_of
from tests.programs import drawn, shown
from tests.samples import ROOT, STRANGE, Case, Likeness
from tests.worths import Beyond, Worth, told

EMPTY = State(Book())

# Numbers a (2, 0) and b (4, 0); the sums (5, 0) a + b and (8, 0) b + a; the product (11, 0) of a and b; a + a (14, 0).
PAIRS = State(made_of("(a = 1) (b = 2) (+ a b) (+ b a) (* a b) (+ a a)"))
A, B, AB, BA, PRODUCT, TWICE = (2, 0), (4, 0), (5, 0), (8, 0), (11, 0), (14, 0)

BOTH = (((A,), 1), ((B,), 1))

# The lost use (2, 0) counts for x and for the sum (4, 0), not for y (6, 0).
BROKEN = State(made_of("(x = ?) 3 (+ x 1) (y = 1) y"))

# A number (2, 0) in x, and from it on products x * x, y * y, ..: 2, 4, .., 64 and 128 times.
GREAT = State(made_of("(x = 3) (b = (* x x)) (c = (* b b)) (d = (* c c)) (e = (* d d)) (f = (* e e)) (g = (* f f))"
                      " (h = (* g g)) 5 h"))


def state_of(text):
    return State(made_of(text))


def sums(many):
    """A product of two sums of so many numbers each."""
    return f"(* (+{' 1' * many}) (+{' 1' * many}))"


class PolynomialTest(Case):
    def test_kinds(self):
        self.tells((((A,), 1),), polynomial_of(PAIRS, A))
        self.tells((((A,), 1),), polynomial_of(PAIRS, (1, 0)))
        self.tells(BOTH, polynomial_of(PAIRS, AB))
        self.tells(BOTH, polynomial_of(PAIRS, BA))
        self.tells((((A, B), 1),), polynomial_of(PAIRS, PRODUCT))
        self.tells((((A,), 2),), polynomial_of(state=PAIRS, thing=TWICE))
        self.tells((((A,), 2),), polynomial_of(PAIRS, ROOT))

    def test_empty_things(self):
        self.tells((), polynomial_of(EMPTY, ROOT))
        for text, told_one in {"()": (), "(+)": (), "(*)": (((), 1),), "(x = 5)": (), "(x =) x": (), "((x = 5))": (),
                               "(+ (x = 5))": (), "(* (x = 5))": (((), 1),), "(+ (*) (*))": (((), 2),), "(* (+) 5)": ()}.items():
            self.tells(told_one, polynomial_of(state_of(text), ROOT))

    def test_the_contents_do_not_matter(self):
        one, other = state_of("(+ 0 0) (* 5 6)"), state_of("(+ 5 7) (* 0 1)")
        for thing in one.line():
            self.tells(polynomial_of(one, thing), polynomial_of(other, thing))

    def test_things_with_a_cause(self):
        for thing in ((1, 0), (2, 0), (4, 0), (5, 0)):
            self.refused(HasCause, thing, polynomial_of, BROKEN, thing)
        self.tells(((((3, 0),), 1),), polynomial_of(BROKEN, (3, 0)))
        self.tells(((((8, 0),), 1),), polynomial_of(BROKEN, ROOT))

    def test_beyond_the_bounds(self):
        lets = [thing for thing in GREAT.line() if GREAT.kind(thing) == "let"]
        self.tells(((((2, 0),) * 64, 1),), polynomial_of(GREAT, lets[6]))
        for thing in (lets[7], ROOT, GREAT.under(ROOT)[-1], GREAT.under(lets[7])[0]):
            self.refused(TooMany, 100, polynomial_of, GREAT, thing)
        self.tells((((GREAT.under(ROOT)[-2],), 1),), polynomial_of(GREAT, GREAT.under(ROOT)[-2]))

    def test_terms_beyond_the_bounds(self):
        self.assertEqual(100, len(polynomial_of(state_of(sums(10)), ROOT)))
        self.refused(TooMany, 100, polynomial_of, state_of(sums(11)), ROOT)
        # What it hangs on is beyond them, though the whole would be 0.
        self.refused(TooMany, 100, polynomial_of, state_of(f"(* {sums(11)} (+))"), ROOT)
        self.refused(TooMany, 100, polynomial_of, state_of(f"(* (+) {sums(11)})"), ROOT)
        # A part that does not count is not looked at.
        state = state_of(f"({sums(11)} 5)")
        number = state.under(state.under(ROOT)[0])[-1]
        self.tells((((number,), 1),), polynomial_of(state, ROOT))

    def test_part_by_part_in_order(self):
        # The first two parts are beyond the bounds together, and the third one makes them 0.
        eleven = "(+" + " 1" * 11 + ")"
        for parts in ([eleven, eleven, "(+)"], ["(*)", eleven, eleven, "(+)"]):
            self.refused(TooMany, 100, polynomial_of, state_of(f"(* {' '.join(parts)})"), ROOT)
        for parts in ([eleven, "(+)", eleven], ["(+)", eleven, eleven]):
            self.tells((), polynomial_of(state_of(f"(* {' '.join(parts)})"), ROOT))


class AlwaysTest(Case):
    def test_alike(self):
        for one, other in ((AB, BA), (A, (1, 0)), (A, (6, 0)), (TWICE, ROOT), (AB, AB), (ROOT, ROOT)):
            self.assertIs(True, are_always(PAIRS, one, other))
            self.assertIs(True, are_always(state=PAIRS, one=other, other=one))
            self.tells(None, witness_of(PAIRS, one, other))

    def test_unlike(self):
        for one, other in ((A, B), (AB, PRODUCT), (AB, TWICE), (PRODUCT, TWICE), (A, TWICE), (ROOT, A)):
            self.assertIs(False, are_always(PAIRS, one, other))
            self.assertIs(False, are_always(PAIRS, other, one))

    def test_numbers_that_happen_to_be_equal(self):
        self.assertIs(False, are_always(state_of("5 5"), (1, 0), (2, 0)))
        self.assertIs(True, are_always(state_of("(+) ()"), (1, 0), (2, 0)))
        self.assertIs(False, are_always(state_of("(+) (*)"), (1, 0), (2, 0)))

    def test_squares(self):
        state = state_of("(a = 1) (b = 2) (* (+ a b) (+ a b)) (+ (* a a) (* a b) (* b a) (* b b)) (+ (* a a) (* b b))")
        square, sum_of_four, sum_of_two = state.under(ROOT)[2:]
        self.assertIs(True, are_always(state, square, sum_of_four))
        self.assertIs(False, are_always(state, square, sum_of_two))
        self.tells((1, 1), witness_of(state, square, sum_of_two))

    def test_witnesses(self):
        self.tells((0, 1), witness_of(PAIRS, A, B))
        self.tells((0, 1), witness_of(state=PAIRS, one=AB, other=PRODUCT))
        self.tells((0, 1), witness_of(PAIRS, AB, TWICE))
        self.tells((1, 0), witness_of(PAIRS, PRODUCT, TWICE))
        self.tells((1,), witness_of(PAIRS, A, TWICE))
        self.tells((), witness_of(state_of("(+) (*)"), (1, 0), (2, 0)))

    def test_witnesses_of_variables_that_do_not_matter(self):
        # a + b and c + b: b is in both, and its content does not matter.
        state = state_of("(a = 1) (b = 2) (c = 3) (+ a b) (+ c b)")
        one, other = state.under(ROOT)[3:]
        self.tells((0, 0, 1), witness_of(state, one, other))
        self.tells(("unlike", ((2, 0), (4, 0), (6, 0)), (0, 0, 1)), alike_paper(state, one, other))

    def test_witnesses_beyond_0_and_1(self):
        state = state_of("(x = 7) (* x x) x (* x x x)")
        square, plain, cube = state.under(ROOT)[1:]
        self.tells((2,), witness_of(state, square, plain))
        self.tells((2,), witness_of(state, cube, square))
        # Minus one is 9972, 4 * 9 * 277; x (x - 1) (x - 2) (x - 3) (x - 4) is 0 up to 4.
        minus = ("(t = (+ (*) (*))) (u = (* t t)) (v = (* u u)) (w = (* v v)) (m = (* u (+ u u (*)) (+ w v u (*)))) (x = 0)"
                 " (* x (+ x m) (+ x m m) (+ x m m m) (+ x m m m m)) (+)")
        state = state_of(minus)
        number, great, nothing = state.under(ROOT)[5:]
        self.tells((((), 9972),), polynomial_of(state, state.under(ROOT)[4]))
        self.tells((5,), witness_of(state, great, nothing))
        self.tells(("unlike", tuple(state.under(number)), (5,)), alike_paper(state, great, nothing))
        self.assertIs(True, accepts_alike(state, great, nothing, ("unlike", tuple(state.under(number)), (99,))))
        self.assertIs(False, accepts_alike(state, great, nothing, ("unlike", tuple(state.under(number)), (4,))))


class PaperTest(Case):
    def test_alike(self):
        rows = (((2, 0), (((A,), 1),)), ((1, 0), (((A,), 1),)), ((4, 0), (((B,), 1),)), ((3, 0), (((B,), 1),)),
                ((6, 0), (((A,), 1),)), ((7, 0), (((B,), 1),)), (AB, BOTH), ((9, 0), (((B,), 1),)), ((10, 0), (((A,), 1),)),
                (BA, BOTH))
        self.tells(("alike", rows), alike_paper(PAIRS, AB, BA))
        self.tells(("alike", rows), alike_paper(state=PAIRS, one=BA, other=AB))
        self.tells(("alike", ((ROOT, ()),)), alike_paper(EMPTY, ROOT, ROOT))
        self.tells(("alike", ((A, (((A,), 1),)),)), alike_paper(PAIRS, A, A))

    def test_unlike(self):
        self.tells(("unlike", (A, B), (0, 1)), alike_paper(PAIRS, A, B))
        self.tells(("unlike", (A,), (1,)), alike_paper(PAIRS, A, TWICE))
        self.tells(("unlike", (), ()), alike_paper(state_of("(+) (*)"), (1, 0), (2, 0)))

    def test_papers_of_others(self):
        for contents in ((0, 1), (1, 0), (99, 98), (5, 6)):
            self.assertIs(True, accepts_alike(PAIRS, A, B, ("unlike", (A, B), contents)))
        self.assertIs(False, accepts_alike(PAIRS, A, B, ("unlike", (A, B), (7, 7))))
        _, rows = alike_paper(PAIRS, AB, BA)
        # In another order, and with more than is needed.
        mixed = (rows[2], rows[0], rows[3], rows[1], rows[8], rows[7], rows[9], rows[5], rows[4], rows[6])
        more = rows + (((12, 0), (((A,), 1),)), ((13, 0), (((B,), 1),)), (PRODUCT, (((A, B), 1),)))
        for right in (rows, mixed, more):
            self.assertIs(True, accepts_alike(PAIRS, AB, BA, ("alike", right)))
            self.assertIs(True, accepts_alike(state=PAIRS, one=BA, other=AB, value=("alike", right)))
            self.assertIs(False, accepts_alike(PAIRS, AB, PRODUCT, ("alike", right)))
        self.assertIs(False, accepts_alike(PAIRS, AB, TWICE, ("alike", more)))

    def test_bent_alike_papers(self):
        _, rows = alike_paper(PAIRS, AB, BA)
        last = (BA, BOTH)
        for bent in ((), rows[1:], rows[:-1], rows + rows[-1:], rows[::-1], list(rows), rows[:-1] + ((BA, BOTH[:1]),), None, "ab",
                     rows[:-1] + ([BA, BOTH],), rows[:-1] + ((BA, list(BOTH)),), rows[:-1] + ((BA, BOTH[::-1]),), rows[-1],
                     rows[:-1] + ((BA, (((A,), True), ((B,), 1))),), rows[:-1] + ((BA, (((A,), 1), ([B], 1))),),
                     rows[:-1] + ((BA, BOTH, None),), rows[:-1] + (((8, False), BOTH),), rows[:-1] + ((BA, Likeness()),),
                     rows[:-1] + (Likeness(),), rows + ((A, (((A,), 1),)),), rows + (((99, 0), ()),), rows + ((None, ()),),
                     rows + ((TWICE, (((A,), 2),)),), rows[:-1] + (((9, 9), BOTH), last), rows + ((ROOT, BOTH),), dict(rows),
                     rows[:-1] + ((BA, (((A,), 1), ((B,), 9974))),), (last,), (rows[6], last), rows[:-1] + ((BA, None),)):
            self.assertIs(False, accepts_alike(PAIRS, AB, BA, ("alike", bent)), bent)

    def test_rows_without_one_of_both(self):
        _, rows = alike_paper(PAIRS, AB, BA)
        self.tells((AB, BOTH), rows[6])
        for one, other in ((AB, BA), (BA, AB)):
            self.assertIs(False, accepts_alike(PAIRS, one, other, ("alike", rows[:6] + rows[7:])))
            self.assertIs(False, accepts_alike(PAIRS, one, other, ("alike", rows[:-1])))

    def test_bent_unlike_papers(self):
        for variables, contents in (((A, B), (0, 0)), ((A, B), (0,)), ((A, B), (0, 1, 2)), ((A,), (1,)), ((B,), (1,)), ((B, A), (1, 0)),
                                    ([A, B], (0, 1)), ((A, B), [0, 1]), ((A, B), (0, 100)), ((A, B), (0, -1)), ((A, B), (0, True)),
                                    ((A, B), (False, 1)), ((A, B), (0, None)), ((A, B), (0, 1.0)), ((A, B), "01"), ((A, (4, False)), (0, 1)),
                                    ((A, B, (6, 0)), (0, 1, 0)), ((A, B, B), (0, 1, 1)), (None, (0, 1)), ((A, B), None), ((), ()),
                                    ((A, Likeness()), (0, 1)), ((A, B), (0, Likeness())), (Likeness(), (0, 1)), ((A, B), Likeness())):
            self.assertIs(False, accepts_alike(PAIRS, A, B, ("unlike", variables, contents)), (variables, contents))

    def test_bent_papers(self):
        _, rows = alike_paper(PAIRS, AB, BA)
        for value in (*STRANGE, rows, ("alike", rows, None), ["alike", rows], ("alike",), (None, rows), (b"alike", rows),
                      ("unlike", rows), ("unlike", (A, B), (0, 1)), ("unlike", (A, B), (1, 1)), (Likeness(), rows),
                      ("alike", (A, B), (0, 1)), ("always", rows)):
            self.assertIs(False, accepts_alike(PAIRS, AB, BA, value), value)
        for value in (*STRANGE, ["unlike", (A, B), (0, 1)], ("unlike", (A, B), (0, 1), None), ("unlike", (A, B)), ((A, B), (0, 1)),
                      ("alike", (A, B), (0, 1)), (None, (A, B), (0, 1)), (Likeness(), (A, B), (0, 1))):
            self.assertIs(False, accepts_alike(PAIRS, A, B, value), value)

    def test_rows_of_what_has_no_polynomial(self):
        # The lost use (2, 0), and what hangs on it, have none.
        state = state_of("(x = ?) (y = 1) y y")
        one, other = state.under(ROOT)[2:]
        _, rows = alike_paper(state, one, other)
        self.assertIs(True, accepts_alike(state, one, other, ("alike", rows)))
        for more in (((2, 0), None), ((2, 0), ()), ((1, 0), ()), ((1, 0), None)):
            self.assertIs(False, accepts_alike(state, one, other, ("alike", (more, *rows))), more)
        # What is beyond the bounds has none, but what it is made of has.
        numbers = [thing for thing in GREAT.line() if GREAT.kind(thing) == "number"]
        lets = [thing for thing in GREAT.line() if GREAT.kind(thing) == "let"]
        _, rows = alike_paper(GREAT, lets[6], lets[6])
        five = (numbers[1], (((numbers[1],), 1),))
        self.assertIs(True, accepts_alike(GREAT, numbers[1], numbers[1], ("alike", (*rows, five))))
        uses = GREAT.under(GREAT.under(lets[7])[0])
        more = tuple((use, rows[-1][1]) for use in uses)
        self.assertIs(True, accepts_alike(GREAT, numbers[1], numbers[1], ("alike", (*rows, *more, five))))
        for value in ((((numbers[0],) * 128, 1),), (), None, (((numbers[0],) * 99, 1),)):
            great = (GREAT.under(lets[7])[0], value)
            self.assertIs(False, accepts_alike(GREAT, numbers[1], numbers[1], ("alike", (*rows, *more, great, five))))


class ProfileTest(Case):
    def test_profiles(self):
        self.tells(tuple(range(100)), profile_of(PAIRS, A, A))
        self.tells(tuple(2 * content for content in range(100)), profile_of(PAIRS, A, ROOT))
        self.tells(tuple(content + 2 for content in range(100)), profile_of(state=PAIRS, number=A, thing=AB))
        self.tells((2,) * 100, profile_of(PAIRS, A, (3, 0)))
        self.tells(tuple(99 * content * content % 9973 for content in range(100)),
                   profile_of(state_of("(x = 5) (* x x 99)"), (2, 0), ROOT))

    def test_things_with_a_cause(self):
        self.tells((None,) * 100, profile_of(BROKEN, (3, 0), (4, 0)))
        self.tells((None,) * 100, profile_of(state_of("(+ 1 ?)"), (2, 0), ROOT))
        # A thing beyond the bounds has its values, too.
        number, other = [thing for thing in GREAT.line() if GREAT.kind(thing) == "number"]
        self.tells(tuple(content ** 128 % 9973 for content in range(100)), profile_of(GREAT, number, ROOT))
        self.tells((3 ** 128 % 9973,) * 100, profile_of(GREAT, other, ROOT))

    def test_the_state_stays(self):
        profile_of(PAIRS, A, ROOT)
        self.tells(2, value_of(PAIRS, ROOT))
        self.tells(1, PAIRS.content(A))


class ChoicesTest(Case):
    def test_the_nearest_first(self):
        state = state_of("(a = 5) (b = 6) (+ 1 b)")
        self.tells([((3, 0), 7), ((1, 0), 6)], choices_of(state, (7, 0), ROOT))
        self.tells([((3, 0), 6), ((1, 0), 5)], choices_of(state=state, use=(7, 0), thing=(7, 0)))
        self.tells([((3, 0), 6), ((1, 0), 6)], choices_of(state, (7, 0), (3, 0)))

    def test_lost_uses(self):
        state = state_of("(a = 5) (b = 6) ?")
        self.tells([((3, 0), 6), ((1, 0), 5)], choices_of(state, (5, 0), ROOT))
        out = made_of("? (a = 5)").followed(0, [("point", (1, 0), (2, 0))])
        self.tells([], choices_of(State(out), (1, 0), ROOT))

    def test_uses_that_see_no_let(self):
        self.tells([], choices_of(state_of("? (x =)"), (1, 0), ROOT))
        self.tells([], choices_of(state_of("(x = ?)"), (2, 0), (1, 0)))

    def test_things_with_a_cause(self):
        state = state_of("(a = ?) (b = 6) (+ b 1)")
        self.tells([((3, 0), 7), ((1, 0), None)], choices_of(state, (6, 0), ROOT))
        self.tells([((3, 0), None), ((1, 0), None)], choices_of(state, (6, 0), (2, 0)))


class SpareTest(Case):
    def test_the_first_let_in_the_order_of_the_line(self):
        state = state_of("(a = 1) (b = a) (c = a) (d = 2) c")
        self.tells((1, 0), spare_by(state, (5, 0)))
        self.tells((1, 0), spare_by(state=state, let=(3, 0)))
        # At the uses of a, b and c no other let of its polynomial is visible, but a itself: the use in b sees a alone.
        self.tells(None, spare_by(state, (1, 0)))
        self.tells(None, spare_by(state, (7, 0)))

    def test_a_let_without_uses(self):
        # None of its uses has to see the other one.
        state = state_of("((a = 1)) ((b =)) ((c =)) (d = (+))")
        self.tells((7, 0), spare_by(state, (5, 0)))
        self.tells((5, 0), spare_by(state, (7, 0)))
        self.tells((5, 0), spare_by(state, (8, 0)))
        self.tells(None, spare_by(state, (2, 0)))

    def test_each_use_has_to_see_it(self):
        book = made_of("(a = 1) ((b = a) b) (c = a) c")
        state = State(book)
        lets = [thing for thing in state.line() if state.kind(thing) == "let"]
        self.tells([None, (1, 0), (1, 0)], [spare_by(state, let) for let in lets])
        # The use at the end sees a and c, not b.
        one = state_of("(c = 1) ((b = c) b) c")
        self.tells([None, (1, 0)], [spare_by(one, let) for let in ((1, 0), (4, 0))])
        # The first use of b does not see c, the second one does.
        two = state_of("(b =) b (c =) b")
        self.tells([None, (1, 0)], [spare_by(two, let) for let in ((1, 0), (3, 0))])
        self.tells([(3, 0), (1, 0)], [spare_by(state_of("(b =) 5 (c =) b"), let) for let in ((1, 0), (3, 0))])

    def test_moved_lets(self):
        book = made_of("(a =) (b =) a b").followed(0, [("move", (1, 0), ROOT, 1)])
        self.tells([(2, 0), (1, 0)], [spare_by(State(book), let) for let in ((1, 0), (2, 0))])

    def test_others_are_not_asked(self):
        # Of a let that has a cause, or is beyond the bounds, nothing is asked but for itself.
        state = state_of("(a = ?) (b =) (c =) a")
        self.tells((3, 0), spare_by(state, (4, 0)))
        self.refused(HasCause, (1, 0), spare_by, state, (1, 0))
        lets = [thing for thing in GREAT.line() if GREAT.kind(thing) == "let"]
        self.refused(TooMany, 100, spare_by, GREAT, lets[7])
        self.tells([None] * 7, [spare_by(GREAT, let) for let in lets[:7]])


class WrongTest(Case):
    def test_no_state(self):
        for value in (*STRANGE, made_of("1"), State):
            self.refused(NoState, value, polynomial_of, value, None)
            self.refused(NoState, value, spare_by, value, None)
            for call in (are_always, witness_of, alike_paper, profile_of, choices_of):
                self.refused(NoState, value, call, value, None, None)
            self.refused(NoState, value, accepts_alike, value, None, None, None)

    def test_no_thing(self):
        for value in (*STRANGE, (17, 0), (99, 0), (2, 1)):
            if not PAIRS.is_in(value):
                self.refused(NoThing, value, polynomial_of, PAIRS, value)
                for call in (are_always, witness_of, alike_paper):
                    self.refused(NoThing, value, call, PAIRS, value, None)
                    self.refused(NoThing, value, call, PAIRS, A, value)
                self.refused(NoThing, value, accepts_alike, PAIRS, value, None, None)
                self.refused(NoThing, value, accepts_alike, PAIRS, A, value, None)
                self.refused(NoThing, value, profile_of, PAIRS, A, value)
                self.refused(NoThing, value, choices_of, PAIRS, (6, 0), value)
            if value not in ((1, 0), (3, 0)) or isinstance(value, Likeness):
                self.refused(NoThing, value, spare_by, PAIRS, value)
            self.refused(NoThing, value, profile_of, PAIRS, value, None)
            self.refused(NoThing, value, choices_of, PAIRS, value, None)
        out = State(made_of("(x = 1) 2").followed(0, [("drop", (1, 0))]))
        for call in (polynomial_of, spare_by):
            self.refused(NoThing, (1, 0), call, out, (1, 0))
        self.refused(NoThing, (2, 0), profile_of, out, (2, 0), ROOT)

    def test_other_kinds(self):
        for thing in PAIRS.line():
            if PAIRS.kind(thing) != "let":
                self.refused(NoThing, thing, spare_by, PAIRS, thing)
            # That it is no let is told ahead of its causes.
            self.refused(NoThing, (2, 0), spare_by, BROKEN, (2, 0))
            self.refused(NoThing, ROOT, spare_by, GREAT, ROOT)
            if PAIRS.kind(thing) != "number":
                self.refused(NoThing, thing, profile_of, PAIRS, thing, None)
            if PAIRS.kind(thing) != "use":
                self.refused(NoThing, thing, choices_of, PAIRS, thing, None)

    def test_causes_and_bounds_in_order(self):
        calls = [are_always, witness_of, alike_paper, lambda state, one, other: accepts_alike(state, one, other, None)]
        for call in calls:
            self.refused(HasCause, (1, 0), call, BROKEN, (1, 0), (2, 0))
            self.refused(HasCause, (2, 0), call, BROKEN, (3, 0), (2, 0))
            self.refused(HasCause, (2, 0), call, BROKEN, (2, 0), (2, 0))
            # Both are things ahead of any question of causes.
            self.refused(NoThing, (99, 0), call, BROKEN, (1, 0), (99, 0))
            self.refused(TooMany, 100, call, GREAT, ROOT, (1, 0))
            self.refused(TooMany, 100, call, GREAT, (1, 0), ROOT)
        mixed = state_of(f"{sums(11)} ?")
        for call in calls:
            self.refused(HasCause, mixed.under(ROOT)[1], call, mixed, (1, 0), mixed.under(ROOT)[1])
            self.refused(TooMany, 100, call, mixed, (1, 0), (1, 0))


class RandomTest(Case):
    def cases(self):
        for seed, (state, view) in enumerate(itertools.chain(drawn(100, 20, 1), self.sums())):
            yield random.Random(seed), state, Worth(view)

    def sums(self):
        """Sums and products of three lets."""
        for seed in range(60):
            rng = random.Random(f"sums {seed}")
            rows = []
            for _ in range(4):
                inner = [" ".join([rng.choice("+*"), *(rng.choice(["a", "b", "c"]) for _ in range(rng.randint(0, 3)))])
                         for _ in range(rng.randint(1, 2))]
                rows.append(f"({rng.choice('+*')}" + "".join(f" ({one})" for one in inner) + ")")
            lets = [f"({name} = {rng.choice(['1', '1', '(+)', '(*)', '', 'a'])})".replace("= )", "=)") for name in "abc"]
            lets[0] = "(a = 1)"
            yield shown(made_of(" ".join([*lets, *rows])))

    def polynomials(self, known, things):
        """Those of each thing, None for one with a cause, and False for one beyond the bounds."""
        found = {}
        for thing in things:
            try:
                found[thing] = None if known.causes(thing) else told(known.polynomial(thing))
            except Beyond:
                found[thing] = False
        return found

    def test_polynomials(self):
        found = 0
        for rng, state, known in self.cases():
            contents = {thing: rng.choice([0, 1, 2, 99]) for thing in known.view.line if known.kinds[thing] == "number"}
            other = Worth(known.view, contents)
            for thing, polynomial in self.polynomials(known, known.view.line).items():
                if polynomial is None:
                    self.refused(HasCause, thing, polynomial_of, state, thing)
                elif polynomial is False:
                    self.refused(TooMany, 100, polynomial_of, state, thing)
                else:
                    found += 1
                    self.tells(polynomial, polynomial_of(state, thing))
                    self.assertIs(True, is_polynomial(polynomial))
                    self.tells(known.value(thing), value_at(polynomial, {one: known.contents[one] for one in contents}))
                    self.tells(other.value(thing), value_at(polynomial, contents))
        self.assertGreater(found, 500)

    def pairs(self):
        """Some pairs of things that have polynomials."""
        for rng, state, known in self.cases():
            polynomials = self.polynomials(known, known.view.line)
            good = [thing for thing in polynomials if polynomials[thing] not in (None, False)]
            for _ in range(8):
                if good:
                    one, other = rng.choice(good), rng.choice(good)
                    if rng.random() < 0.5:
                        other = rng.choice([thing for thing in good if polynomials[thing] == polynomials[one]])
                    yield rng, state, known, one, other, polynomials

    def test_alike_things_have_equal_values(self):
        seen = [0, 0]
        for rng, state, known, one, other, polynomials in self.pairs():
            is_alike = polynomials[one] == polynomials[other]
            seen[is_alike] += 1
            self.assertIs(is_alike, are_always(state, one, other))
            paper = alike_paper(state, one, other)
            self.assertIs(True, accepts_alike(state, one, other, paper))
            self.assertIs(True, accepts_alike(state, other, one, paper))
            if is_alike:
                self.tells(("alike", known.rows([one, other])), paper)
                numbers = [thing for thing in known.view.line if known.kinds[thing] == "number"]
                for _ in range(5):
                    drawn_ones = Worth(known.view, {number: rng.randrange(100) for number in numbers})
                    self.tells(drawn_ones.value(one), drawn_ones.value(other))
        self.assertTrue(min(seen) > 100, seen)

    def test_least_witnesses_by_trying_all(self):
        tried = 0
        for _, state, known, one, other, polynomials in self.pairs():
            if polynomials[one] == polynomials[other]:
                self.tells(None, witness_of(state, one, other))
                continue
            variables = sorted({variable for thing in (one, other) for row, _ in polynomials[thing] for variable in row})
            witness = witness_of(state, one, other)
            self.tells(("unlike", tuple(variables), witness), alike_paper(state, one, other))
            for contents in itertools.product(range(100), repeat=len(variables)):
                worth = Worth(known.view, dict(zip(variables, contents)))
                if worth.value(one) != worth.value(other):
                    self.tells(contents, witness)
                    break
                tried += 1
        self.assertGreater(tried, 100)

    def test_papers_of_others(self):
        right = [0, 0]
        for rng, state, known, one, other, polynomials in self.pairs():
            variables = tuple(sorted({variable for thing in (one, other) for row, _ in polynomials[thing] for variable in row}))
            contents = tuple(rng.choice([0, 1, 2]) for _ in variables)
            worth = Worth(known.view, dict(zip(variables, contents)))
            is_unlike = worth.value(one) != worth.value(other)
            self.assertIs(is_unlike, accepts_alike(state, one, other, ("unlike", variables, contents)))
            right[0] += is_unlike
            rows = list(known.rows([one, other]))
            for _ in range(3):
                at, to = rng.randrange(len(rows)), rng.randrange(len(rows))
                rows[at], rows[to] = rows[to], rows[at]
                things = [thing for thing, _ in rows]
                is_right = polynomials[one] == polynomials[other] and all(
                    set(known.parts(thing)) <= set(things[:place]) for place, thing in enumerate(things))
                self.assertIs(is_right, accepts_alike(state, one, other, ("alike", tuple(rows))))
                right[1] += is_right
        self.assertTrue(min(right) > 50, right)

    def test_profiles_and_choices(self):
        for rng, state, known in self.cases():
            things = known.view.line
            for number in [thing for thing in things if known.kinds[thing] == "number"][:2]:
                thing = rng.choice(things)
                values = tuple(Worth(known.view, {number: content}).value(thing) for content in range(100))
                self.tells(values, profile_of(state, number, thing))
            for use in known.view.uses:
                thing = rng.choice(things)
                values = [(let, Worth(known.view, bound={use: let}).value(thing)) for let in known.view.plant.visible(use)]
                self.tells(values, choices_of(state, use, thing))

    def test_choices_are_what_a_point_makes(self):
        for seed, (state, view) in enumerate(drawn(30, 16, 0)):
            known = Worth(view)
            for use in view.uses[:2]:
                for let, value in choices_of(state, use, ROOT):
                    self.tells(Worth(view, bound={use: let}).value(ROOT), value)
            self.assertEqual(known.value(ROOT), value_of(state, ROOT))

    def test_spare_lets(self):
        found = 0
        for _, state, known in self.cases():
            view = known.view
            polynomials = self.polynomials(known, view.lets)
            for let in view.lets:
                if polynomials[let] is None:
                    self.refused(HasCause, let, spare_by, state, let)
                elif polynomials[let] is False:
                    self.refused(TooMany, 100, spare_by, state, let)
                else:
                    uses = [use for use, binder in view.bound.items() if binder == let]
                    fit = [thing for thing in view.line if thing in view.lets and thing != let
                           and polynomials[thing] == polynomials[let]
                           and all(use in view.plant.scopes[thing] for use in uses)]
                    found += len(fit) > 0
                    self.tells((fit or [None])[0], spare_by(state, let))
        self.assertGreater(found, 50)
