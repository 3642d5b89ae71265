"""Point [14] and section kept.py."""

import itertools
import random

from sharedscopes.books import Book
from sharedscopes.errors import NoState, NoThing, NoThings, NoWeights
from sharedscopes.kept import accepts_most, how_taken, least_weight, most_paper
from sharedscopes.reading import made_of
from sharedscopes.states import State
from tests.programs import drawn, tangled
from tests.samples import ROOT, STRANGE, Case, Likeness

# Lets x1 (1, 0), x2 (2, 0), x3 (3, 0), all used at the end: any two meet.
ALL = State(made_of("(x1 =) (x2 =) (x3 =) x1 x2 x3"))

# Two blocks with two lets each that meet: a and b, c and d.
PAIRS = State(made_of("((a =) (b =) a b) ((c =) (d =) c d)"))
A, B, C, D = (2, 0), (3, 0), (7, 0), (8, 0)

# Lets that do not meet.
FREE = State(made_of("(x =) 1 (y =) (z =)"))

ONE, TWO, THREE = (1, 0), (2, 0), (3, 0)


class PaperTest(Case):
    def test_an_empty_class(self):
        self.tells(("most", (), {}), most_paper(ALL, []))
        self.tells(("most", (), {}), most_paper(State(Book()), ()))
        self.tells(("most", (), {}), most_paper(state=State(Book()), lets=[], weights={}))

    def test_lets_that_do_not_meet(self):
        lets = [(1, 0), (3, 0), (4, 0)]
        self.tells(("most", tuple(lets), {let: 1 for let in lets}), most_paper(FREE, lets[::-1]))
        self.tells(("most", tuple(lets), {(1, 0): 99, (3, 0): 1, (4, 0): 2}),
                   most_paper(FREE, lets, {(4, 0): 2, (1, 0): 99}))

    def test_lets_that_all_meet(self):
        # The lets x1 and x2 have x3 as a live point, so its number counts for all three.
        self.tells(("most", (THREE,), {THREE: 1}), most_paper(ALL, [ONE, TWO, THREE]))
        self.tells(("most", (TWO,), {TWO: 1, THREE: 1}), most_paper(ALL, [ONE, TWO, THREE], {TWO: 2}))
        self.tells(("most", (ONE,), {ONE: 1, TWO: 1, THREE: 1}), most_paper(ALL, [ONE, TWO, THREE], {TWO: 2, ONE: 3}))
        self.tells(("most", (TWO,), {TWO: 1}), most_paper(ALL, (ONE, TWO)))

    def test_two_pairs(self):
        self.tells(("most", (B, D), {B: 1, D: 1}), most_paper(PAIRS, [A, B, C, D]))
        self.tells(("most", (A, D), {A: 1, B: 1, D: 5}), most_paper(PAIRS, [A, B, C, D], {A: 2, D: 5, C: 5}))
        self.tells(("most", (A,), {A: 1}), most_paper(PAIRS, [A]))

    def test_weights_of_lets_beyond_the_class(self):
        self.tells(("most", (B,), {B: 1}), most_paper(PAIRS, [A, B], {D: 99, C: 1}))


class AcceptsTest(Case):
    def test_papers_of_others(self):
        lets = [ONE, TWO, THREE]
        for taken in lets:
            self.assertIs(True, accepts_most(ALL, lets, ("most", (taken,), {THREE: 1})))
        self.assertIs(True, accepts_most(state=ALL, lets=lets, value=("most", (ONE,), {THREE: 1}), weights=None))
        # Numbers may stand at lets that are not of the class.
        self.assertIs(True, accepts_most(ALL, [ONE, TWO], ("most", (ONE,), {THREE: 1})))
        self.assertIs(True, accepts_most(ALL, [ONE, TWO], ("most", (ONE,), {TWO: 1})))
        self.assertIs(False, accepts_most(ALL, [ONE, TWO], ("most", (ONE,), {ONE: 1})))
        self.assertIs(True, accepts_most(ALL, lets, ("most", (TWO,), {THREE: 1, TWO: 98}), {TWO: 99}))
        self.assertIs(True, accepts_most(ALL, lets, ("most", (TWO,), {THREE: 99}), {TWO: 99}))
        self.assertIs(False, accepts_most(ALL, lets, ("most", (TWO,), {THREE: 100}), {TWO: 99}))
        self.assertIs(True, accepts_most(ALL, [], ("most", (), {})))

    def test_bent_papers(self):
        lets, weights, numbers = [A, B, C, D], {A: 2, D: 5, C: 5}, {A: 1, B: 1, D: 5}
        value = ("most", (A, D), numbers)
        self.assertIs(True, accepts_most(PAIRS, lets, value, weights))
        for taken in ((D, A), (A,), (A, A, D), (A, D, D), (A, B, D), [A, D], (list(A), D), (A, (8, False)), (A, None), (),
                      (B, D), None, A, "ab", (A, D, ROOT), (A, D, (1, 0)), 2, {A: True, D: True}, (A, Likeness())):
            self.assertIs(False, accepts_most(PAIRS, lets, ("most", taken, numbers), weights), taken)
        for bent in ({}, {A: 1, D: 5}, {**numbers, C: 1}, {**numbers, A: 2}, {A: True, B: 1, D: 5}, {**numbers, C: 0},
                     {**numbers, A: 2, B: 1, D: 4}, {**numbers, C: -1, D: 6}, {**numbers, (1, 0): 1}, {**numbers, ROOT: 1},
                     list(numbers), tuple(numbers.items()), None, 7, {A: 1, B: 1, D: 5.0}, {A: "1", B: 1, D: 5},
                     {A: 1, B: None, D: 5}, {A: 1, B: 1, (8, False): 5}, {A: 1, (3.0, 0): 1, D: 5}, {**numbers, None: 1},
                     {A: 1, Likeness(): 1, D: 5}, {A: 1, B: Likeness(), D: 5}):
            self.assertIs(False, accepts_most(PAIRS, lets, ("most", (A, D), bent), weights), bent)
        for bent in (*STRANGE, list(value), value[:2], value[1:], (*value, None), ("most of", *value[1:]),
                     (None, *value[1:]), (b"most", *value[1:])):
            self.assertIs(False, accepts_most(PAIRS, lets, bent, weights), bent)

    def test_other_weights_and_classes(self):
        value = most_paper(PAIRS, [A, B, C, D], {A: 2})
        self.assertIs(False, accepts_most(PAIRS, [A, B, C, D], value))
        self.assertIs(False, accepts_most(PAIRS, [B, C, D], value, {A: 2}))
        self.assertIs(True, accepts_most(PAIRS, [D, B, A], ("most", (A, D), {A: 1, B: 1, D: 1}), {A: 2}))

    def test_great_numbers(self):
        self.assertIs(False, accepts_most(ALL, [ONE], ("most", (ONE,), {ONE: 10 ** 199})))


class TakenTest(Case):
    def test_always_some_never(self):
        lets = [ONE, TWO, THREE]
        self.tells(["some"] * 3, [how_taken(ALL, lets, let) for let in lets])
        self.tells(["never", "always", "never"], [how_taken(ALL, lets, let, {TWO: 2}) for let in lets])
        self.tells(["some", "some", "never"], [how_taken(ALL, lets, let, {TWO: 2, ONE: 2}) for let in lets])
        self.tells("always", how_taken(state=FREE, lets=[(1, 0), (3, 0)], let=(3, 0), weights={}))

    def test_least_weights(self):
        lets = [ONE, TWO, THREE]
        self.tells([1, 1, 1], [least_weight(ALL, lets, let) for let in lets])
        self.tells([5, 1, 5], [least_weight(ALL, lets, let, {TWO: 5}) for let in lets])
        self.tells([5, 3, 5], [least_weight(ALL, lets, let, {TWO: 5, ONE: 3}) for let in lets])
        self.tells(1, least_weight(state=FREE, lets=[(1, 0), (3, 0)], let=(3, 0), weights={(3, 0): 99}))

    def test_perhaps_above_99(self):
        # x1 meets both y and z, which do not meet.
        state = State(made_of("(x1 =) ((y =) y x1) ((z =) z x1)"))
        lets = [(1, 0), (3, 0), (7, 0)]
        self.tells(198, least_weight(state, lets, (1, 0), {(3, 0): 99, (7, 0): 99}))
        self.tells("never", how_taken(state, lets, (1, 0), {(1, 0): 99, (3, 0): 99, (7, 0): 99}))


class WrongTest(Case):
    def calls(self):
        yield lambda state, lets, weights=None: most_paper(state, lets, weights)
        yield lambda state, lets, weights=None: accepts_most(state, lets, None, weights)
        yield lambda state, lets, weights=None: how_taken(state, lets, ONE, weights)
        yield lambda state, lets, weights=None: least_weight(state, lets, ONE, weights)

    def test_no_state(self):
        for value in (*STRANGE, made_of("1")):
            for call in self.calls():
                self.refused(NoState, value, call, value, None, 5)

    def test_no_lets(self):
        for call in self.calls():
            self.refuses_rows(NoThings, lambda lets: call(ALL, lets, 5), [ONE, TWO, THREE])
            self.refused(NoThings, 1, call, ALL, [ONE, (4, 0), TWO, TWO], 5)
            self.refused(NoThings, 2, call, ALL, (ONE, TWO, ONE, (4, 0)), 5)
        nowhere = State(made_of("((a =)) (b =)").followed(0, [("drop", (1, 0))]))
        self.refused(NoThings, 0, most_paper, nowhere, [(2, 0)])

    def test_no_let_of_the_class(self):
        for call in (how_taken, least_weight):
            for value in (*STRANGE, ROOT, THREE, (4, 0), (9, 9), (True, 0)):
                self.refused(NoThing, value, call, ALL, [ONE, TWO], value, 5)

    def test_no_weights(self):
        bent = [{ONE: 0}, {ONE: 100}, {ONE: -1}, {ONE: True}, {ONE: 1.0}, {ONE: None}, {ONE: "1"}, {(4, 0): 1}, {ROOT: 1},
                {(7, 0): 1}, {None: 1}, {5: 1}, {Likeness(): 1}, {ONE: Likeness()}, {(1, False): 1}, {(1.0, 0): 5},
                [(ONE, 1)], {ONE: 1, TWO: 100}, {(True, 0): 2}, [], (), 0, False, "", ((ONE, 1),)]
        for call in self.calls():
            for weights in bent:
                self.refused(NoWeights, weights, call, ALL, [ONE, TWO], weights)
            for weights in STRANGE:
                if weights is not None and weights != {}:
                    self.refused(NoWeights, weights, call, ALL, [ONE, TWO], weights)
            for good in ({ONE: 1}, {ONE: 99}, {}, {THREE: 50}, None):
                call(ALL, [ONE, TWO], good)

    def test_weights_are_kept_as_they_are(self):
        weights, lets = {TWO: 5}, [TWO, ONE]
        for call in self.calls():
            call(ALL, lets, weights)
        self.tells(({TWO: 5}, [TWO, ONE]), (weights, lets))


class RandomTest(Case):
    def cases(self):
        for seed, (state, view) in enumerate(itertools.chain(tangled(70, 18), drawn(40, 20))):
            rng = random.Random(seed)
            for heavy in (1, 3, 99):
                lets = rng.sample(view.lets, rng.randint(0, min(8, len(view.lets))))
                weighed = rng.sample(view.lets, rng.randint(0, len(view.lets)))
                yield rng, state, view, lets, {let: rng.randint(1, heavy) for let in weighed}

    def test_told_papers(self):
        for _, state, view, lets, weights in self.cases():
            paper = most_paper(state, lets, weights)
            self.tells(view.told_lot(lets, weights), paper)
            self.assertIs(True, accepts_most(state, lets, paper, weights))
            self.assertTrue(view.is_most_paper(lets, weights, *paper[1:]))
            lots, _ = view.best_lots(lets, weights)
            self.assertIn(paper[1], lots)

    def test_most_by_trying_all_lots(self):
        seen = set()
        for _, state, view, lets, weights in itertools.islice(self.cases(), 200):
            lots, most = view.best_lots(lets, weights)
            for let in lets:
                many = sum(let in lot for lot in lots)
                told = "always" if many == len(lots) else "some" if many else "never"
                seen.add(told)
                self.tells(told, how_taken(state, lets, let, weights))
                _, without = view.best_lots([one for one in lets if one != let], weights)
                with_it = max(sum(weights.get(one, 1) for one in lot if one != let)
                              for lot in view.clear_lots(lets) if let in lot)
                least = [weight for weight in range(1, 1000) if weight + with_it >= without][0]
                self.tells(least, least_weight(state, lets, let, weights))
                if least < 100:
                    self.assertNotEqual("never", how_taken(state, lets, let, {**weights, let: least}))
                if 1 < least < 101:
                    self.assertEqual("never", how_taken(state, lets, let, {**weights, let: least - 1}))
        self.assertEqual({"always", "some", "never"}, seen)

    def test_right_papers_show_the_most(self):
        found = 0
        for rng, state, view, lets, weights in self.cases():
            lots, most = view.best_lots(lets, weights)
            for _ in range(12):
                taken = rng.choice(lots) if rng.random() < 0.7 else tuple(sorted(rng.sample(lets, len(lets) // 2)))
                numbers = dict(most_paper(state, lets, weights)[2])
                if rng.random() < 0.6 and view.lets:
                    one, other = rng.choice(view.lets), rng.choice(view.lets)
                    numbers[one] = numbers.get(one, 0) + rng.choice([0, 1, -1])
                    numbers[other] = numbers.get(other, 0) + rng.choice([0, 1, -1])
                    if rng.random() < 0.7:
                        numbers = {let: number for let, number in numbers.items() if number}
                told = view.is_most_paper(lets, weights, taken, numbers)
                self.assertIs(told, accepts_most(state, lets, ("most", taken, numbers), weights))
                if told:
                    found += 1
                    self.assertEqual(most, sum(weights.get(let, 1) for let in taken))
        self.assertGreater(found, 100)
