"""Point [15] and section namings.py."""

import itertools
import random

from sharedscopes.books import Book
from sharedscopes.errors import NoName, NoNaming, NoState, NoThing, NoWeights
from sharedscopes.meets import is_naming, is_right
from sharedscopes.namings import fewest_names, in_the_way, mended_naming, plain_naming, told_naming
from sharedscopes.reading import made_of
from sharedscopes.states import State
from tests.model import Model
from tests.programs import drawn, tangled
from tests.samples import ROOT, STRANGE, Case, Likeness, random_deeds
from tests.views import View

# Lets x1 (1, 0), x2 (2, 0), x3 (3, 0) of the wish x, all used at the end: any two meet.
ALL = State(made_of("(x1 =) (x2 =) (x3 =) x1 x2 x3"))
ONE, TWO, THREE = (1, 0), (2, 0), (3, 0)

# The document's example: both lets have the wish x, and meet.
PAIR = State(made_of("(x = 1) (y = 2) x").followed(0, [("wish", (3, 0), "x")]))

EMPTY = State(Book())


class ToldTest(Case):
    def test_wishes_that_do_not_meet_are_kept(self):
        state = State(made_of("(x =) x (x =) x (y =)"))
        self.tells({(1, 0): "x", (3, 0): "x", (5, 0): "y"}, told_naming(state))
        self.tells({}, told_naming(EMPTY))
        self.tells({}, told_naming(state=EMPTY, weights={}))

    def test_the_example(self):
        self.tells({(1, 0): "x1", (3, 0): "x"}, told_naming(PAIR))
        self.tells({(1, 0): "x", (3, 0): "x1"}, told_naming(PAIR, {(1, 0): 3}))
        self.tells({(1, 0): "x", (3, 0): "x1"}, told_naming(state=PAIR, weights={(1, 0): 2}))

    def test_numbers_in_rising_rank(self):
        self.tells({ONE: "x1", TWO: "x2", THREE: "x"}, told_naming(ALL))
        self.tells({ONE: "x1", TWO: "x", THREE: "x2"}, told_naming(ALL, {TWO: 2}))
        self.tells({ONE: "x", TWO: "x1", THREE: "x2"}, told_naming(ALL, {ONE: 99, TWO: 98}))

    def test_wishes_of_one_name_only_are_looked_at(self):
        state = State(made_of("(x1 =) (y1 =) (x2 =) x1 y1 x2"))
        self.tells({(1, 0): "x1", (2, 0): "y", (3, 0): "x"}, told_naming(state))

    def test_a_number_is_taken_again_where_nothing_meets(self):
        state = State(made_of("((x1 =) (x2 =) x1 x2) ((x1 =) (x2 =) x1 x2)"))
        self.tells({(2, 0): "x1", (3, 0): "x", (7, 0): "x1", (8, 0): "x"}, told_naming(state))

    def test_lets_ascending(self):
        book = made_of("(x =) (y =)").followed(0, [("move", (1, 0), ROOT, 5)])
        self.tells({(1, 0): "x", (2, 0): "y"}, told_naming(State(book)))


class FewestTest(Case):
    def test_fewest_names(self):
        self.tells((0, None), fewest_names(EMPTY))
        self.tells((0, None), fewest_names(State(made_of("1 (2)"))))
        self.tells((1, (1, 0)), fewest_names(State(made_of("(x =) (y =)"))))
        self.tells((2, (3, 0)), fewest_names(PAIR))
        self.tells((3, THREE), fewest_names(state=ALL))

    def test_the_least_let_of_several(self):
        state = State(made_of("((x =) (y =) x y) ((x =) (y =) x y)"))
        self.tells((2, (3, 0)), fewest_names(state))
        book = made_of("((x =) (y =) x y) ((x =) (y =) x y)").followed(0, [("move", (1, 0), ROOT, 9)])
        self.tells((2, (3, 0)), fewest_names(State(book)))

    def test_plain_namings(self):
        self.tells({}, plain_naming(EMPTY))
        self.tells({ONE: "n1", TWO: "n2", THREE: "n3"}, plain_naming(ALL))
        self.tells({(1, 0): "n1", (3, 0): "n2"}, plain_naming(state=PAIR))
        self.tells({(1, 0): "n1", (2, 0): "n1"}, plain_naming(State(made_of("(x =) (y =)"))))
        moved = made_of("(x =) (y =) x y").followed(0, [("move", (2, 0), ROOT, 0), ("move", (1, 0), ROOT, 1)])
        self.tells({(1, 0): "n2", (2, 0): "n1"}, plain_naming(State(moved)))


class MendedTest(Case):
    def test_without_old_names(self):
        self.tells(({}, []), mended_naming(EMPTY, {}))
        self.tells(({(1, 0): "x", (3, 0): "x1"}, []), mended_naming(PAIR, {}))
        self.tells(({ONE: "x", TWO: "x1", THREE: "x2"}, []), mended_naming(ALL, {}))

    def test_old_names_are_kept(self):
        old = {ONE: "b", TWO: "a9", THREE: "x99"}
        self.tells((old, []), mended_naming(ALL, old))
        self.tells((old, []), mended_naming(state=ALL, old=dict(reversed(old.items())), weights=None))
        self.tells(({ONE: "x1", TWO: "x2", THREE: "x"}, []), mended_naming(ALL, {ONE: "x1", THREE: "x"}))

    def test_old_names_that_clash(self):
        self.tells(({ONE: "x", TWO: "x1", THREE: "q"}, [ONE, TWO]), mended_naming(ALL, {ONE: "q", TWO: "q", THREE: "q"}))
        self.tells(({ONE: "x", TWO: "q", THREE: "x1"}, [ONE, THREE]),
                   mended_naming(ALL, {THREE: "q", TWO: "q", ONE: "q"}, {TWO: 2}))

    def test_a_kept_name_is_in_the_way_from_the_beginning(self):
        self.tells(({ONE: "x2", TWO: "x", THREE: "x1"}, []), mended_naming(ALL, {TWO: "x", THREE: "x1"}))
        # A number of another word is not in the way.
        self.tells(({ONE: "x", TWO: "x1", THREE: "y1"}, []), mended_naming(ALL, {THREE: "y1"}))

    def test_a_let_that_loses_its_old_name_may_be_in_nobodys_way(self):
        state = State(made_of("(x1 =) (y =) x1"))
        self.tells(({(1, 0): "x", (2, 0): "x1"}, [(1, 0)]),
                   mended_naming(state, {(1, 0): "x1", (2, 0): "x1"}, {(2, 0): 2}))

    def test_wrong_old_names(self):
        for value in ({(1, 0): "x0"}, {(4, 0): "x"}, {ROOT: "x"}, {(9, 0): "x"}, {ONE: 1}, {ONE: None}, {ONE: ("x",)},
                      {Likeness(): "x"}, {ONE: Likeness()}, {(True, 0): "x"}, {None: "x"}, [], (), "x", None, 0,
                      [(ONE, "x")], {ONE: "x", (2, False): "y"}, {ONE: "x100"}, {ONE: ""}, {"x": ONE}, *STRANGE):
            if value != {} or isinstance(value, Likeness):
                self.refused(NoNaming, value, mended_naming, ALL, value, 5)


class WayTest(Case):
    def test_in_the_way(self):
        naming = {ONE: "a", TWO: "b", THREE: "c"}
        self.tells([], in_the_way(ALL, naming, ONE, "a"))
        self.tells([TWO], in_the_way(ALL, naming, ONE, "b"))
        self.tells([THREE], in_the_way(state=ALL, naming=naming, let=ONE, name="c"))
        self.tells([], in_the_way(ALL, naming, ONE, "a1"))

    def test_all_of_the_name_that_meet(self):
        state = State(made_of("(a =) ((b =) a) ((b =) a) (b =)"))
        naming = {(1, 0): "a", (3, 0): "b", (6, 0): "b", (8, 0): "b"}
        self.tells([(3, 0), (6, 0)], in_the_way(state, naming, (1, 0), "b"))
        self.tells([(3, 0), (6, 0)], in_the_way(state, dict(reversed(naming.items())), (1, 0), "b"))
        self.tells([], in_the_way(state, naming, (8, 0), "a"))
        self.tells([(1, 0)], in_the_way(state, naming, (6, 0), "a"))

    def test_wrong_values(self):
        naming = {ONE: "a", TWO: "b", THREE: "c"}
        for value in (*STRANGE, {}, {ONE: "a"}, {**naming, TWO: "a"}, {**naming, (4, 0): "x"}, {**naming, ONE: "a0"}):
            self.refused(NoNaming, value, in_the_way, ALL, value, None, None)
        for value in (*STRANGE, ROOT, (4, 0), (7, 0), (9, 0)):
            self.refused(NoThing, value, in_the_way, ALL, naming, value, None)
        for value in STRANGE:
            if not isinstance(value, str) or value == "":
                self.refused(NoName, value, in_the_way, ALL, naming, ONE, value)
        for value in ("a0", "a100", "abcde", "A", "1", "?"):
            self.refused(NoName, value, in_the_way, ALL, naming, ONE, value)


class WrongTest(Case):
    def test_no_state(self):
        for value in (*STRANGE, made_of("1")):
            self.refused(NoState, value, told_naming, value, 5)
            self.refused(NoState, value, fewest_names, value)
            self.refused(NoState, value, plain_naming, value)
            self.refused(NoState, value, mended_naming, value, None, 5)
            self.refused(NoState, value, in_the_way, value, None, None, None)

    def test_no_weights(self):
        for value in ({ONE: 0}, {ONE: 100}, {(4, 0): 1}, {ONE: True}, [], 5, "x", False):
            self.refused(NoWeights, value, told_naming, ALL, value)
            self.refused(NoWeights, value, mended_naming, ALL, {}, value)

    def test_what_is_handed_in_stays(self):
        old, weights = {TWO: "q", ONE: "q"}, {TWO: 7}
        naming, _ = mended_naming(ALL, old, weights)
        told_naming(ALL, weights)
        naming[ONE] = "z"
        self.tells(({TWO: "q", ONE: "q"}, {TWO: 7}), (old, weights))


class RandomTest(Case):
    def cases(self):
        states = itertools.chain(tangled(60, 18), drawn(60, 20), self.wild())
        for seed, (state, view) in enumerate(states):
            rng = random.Random(seed)
            weighed = rng.sample(view.lets, rng.randint(0, len(view.lets)))
            yield rng, state, view, {let: rng.choice([1, 2, 3, 99]) for let in weighed}

    def wild(self):
        for seed in range(10):
            deeds = random_deeds(seed, 40, hands=seed % 4 + 1, meeting=0.6)
            yield State(Book(deeds)), View(Model(deeds))

    def test_as_the_document_says(self):
        for rng, state, view, weights in self.cases():
            self.tells(view.told_naming({}), told_naming(state))
            self.tells(view.told_naming(weights), told_naming(state, weights))
            self.tells(view.plain_naming(), plain_naming(state))
            for names in (["x"], ["x", "y", "x1", "x2"], ["q", "x"]):
                old = {let: rng.choice(names) for let in rng.sample(view.lets, rng.randint(0, len(view.lets)))}
                self.tells(view.mended(old, weights), mended_naming(state, old, weights))

    def test_all_are_right(self):
        for rng, state, view, weights in self.cases():
            old = {let: rng.choice(["x", "y", "y1"]) for let in view.lets if rng.random() < 0.7}
            for naming in (told_naming(state, weights), plain_naming(state), mended_naming(state, old, weights)[0]):
                self.assertTrue(is_naming(state, naming))
                self.assertFalse(view.caught(naming))
                self.assertTrue(is_right(state, naming))

    def test_wishes_of_the_most_weight_are_kept(self):
        for rng, state, view, weights in self.cases():
            naming = told_naming(state, weights)
            for wish in {state.content(let) for let in view.lets}:
                lets = [let for let in view.lets if state.content(let) == wish]
                if len(lets) < 9:
                    kept = sum(weights.get(let, 1) for let in lets if naming[let] == wish)
                    self.assertEqual(view.best_lots(lets, weights)[1], kept)

    def test_old_names_of_the_most_weight_are_kept(self):
        for rng, state, view, weights in self.cases():
            old = {let: rng.choice(["x", "y", "y1"]) for let in view.lets if rng.random() < 0.7}
            naming, lost = mended_naming(state, old, weights)
            self.tells(sorted(let for let in old if naming[let] != old[let]), lost)
            for name in set(old.values()):
                lets = [let for let in old if old[let] == name]
                if len(lets) < 9:
                    kept = sum(weights.get(let, 1) for let in lets if naming[let] == name)
                    self.assertEqual(view.best_lots(lets, weights)[1], kept)

    def test_fewest_names_by_trying_all(self):
        for rng, state, view, weights in self.cases():
            number, point = fewest_names(state)
            lives = {one: sum(one in view.live(let) for let in view.lets) for one in view.lets}
            self.assertEqual(number, max(lives.values(), default=0))
            self.tells(min([one for one in lives if lives[one] == number], default=None), point)
            self.assertEqual(number, len(set(plain_naming(state).values())))
            if len(view.lets) < 7:
                self.assertEqual(number, view.fewest_colours(view.lets))

    def test_fewest_numbers_by_trying_all(self):
        for rng, state, view, weights in self.cases():
            naming = told_naming(state, weights)
            for wish in {state.content(let) for let in view.lets}:
                others = [let for let in view.lets if state.content(let) == wish and naming[let] != wish]
                if len(others) < 7:
                    self.assertEqual(view.fewest_colours(others), len({naming[let] for let in others}))

    def test_just_those_in_the_way_have_to_be_written_otherwise(self):
        for rng, state, view, weights in self.cases():
            naming = told_naming(state, weights)
            for let in view.lets[:4]:
                for name in {*naming.values(), "q9"}:
                    way = in_the_way(state, naming, let, name)
                    self.tells([one for one in view.lets
                                if one != let and naming[one] == name and view.meet(one, let)], way)
                    # Given fresh names, they are in the way of no right naming.
                    fresh = {one: f"q{at + 10}" for at, one in enumerate(way)}
                    self.assertFalse(view.caught({**naming, let: name, **fresh}))
                    for one in way:
                        less = {other: fresh[other] for other in way if other != one}
                        self.assertTrue(view.caught({**naming, let: name, **less}))
