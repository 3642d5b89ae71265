"""Point [12] and section gaps.py."""

import random

from sharedscopes.books import Book
from sharedscopes.errors import NoGap, NoState, NoThing, NoThings
from sharedscopes.gaps import (best_gaps, best_move, demands_of, free_runs, gap_sees, gaps_of, kept_at, keys_at,
                               let_scope, most_kept, narrowest_gap)
from sharedscopes.reading import made_of
from sharedscopes.scopes import told_use
from sharedscopes.states import State
from tests.model import Model
from tests.programs import drawn, random_book, scattered, shown
from tests.samples import ROOT, STRANGE, Case, random_deeds
from tests.views import MOVED, View

# Let a (1, 0) with 1, let b (3, 0) with use a, then use b (5, 0).
ABB = State(made_of("(a = 1) (b = a) b"))

# Let a (1, 0), block (2, 0) with let b (3, 0) and uses a (4, 0), b (5, 0); use a (6, 0).
NESTED = State(made_of("(a =) ((b =) a b) a"))


def after(text, *bodies):
    return State(made_of(text).followed(0, bodies))


class GapsTest(Case):
    def test_in_order(self):
        self.tells([(ROOT, 0), ((1, 0), 0), ((1, 0), 1), (ROOT, 1), (ROOT, 2)], gaps_of(ABB, (3, 0)))
        self.tells([(ROOT, 0), ((1, 0), 0), (ROOT, 1), ((2, 0), 0), ((3, 0), 0), ((2, 0), 1), ((2, 0), 2), (ROOT, 2),
                    (ROOT, 3)], gaps_of(state=NESTED, thing=(4, 0)))

    def test_what_is_below_the_thing_has_no_gaps(self):
        self.tells([(ROOT, 0), ((1, 0), 0), (ROOT, 1), (ROOT, 2)], gaps_of(NESTED, (2, 0)))
        self.tells([(ROOT, 0)], gaps_of(State(made_of("(a = (1))")), (1, 0)))

    def test_of_a_thing_that_is_nowhere(self):
        state = after("(a =) (1)", ("drop", (2, 0)))
        self.tells([(ROOT, 0), ((1, 0), 0), (ROOT, 1)], gaps_of(state, (2, 0)))
        self.tells([(ROOT, 0), ((1, 0), 0), (ROOT, 1)], gaps_of(state, (3, 0)))

    def test_uses_and_numbers_hold_none(self):
        self.tells([(ROOT, 0), ((1, 0), 0), ((2, 0), 0), ((1, 0), 1), (ROOT, 1), (ROOT, 2)],
                   gaps_of(State(made_of("(+ (*)) 1 ?")), (4, 0)))


class SeesTest(Case):
    def sees(self, expected, state, thing, let):
        self.tells(expected, [gap for gap in gaps_of(state, thing) if gap_sees(state, thing, gap, let)])

    def test_lets_ahead_and_around(self):
        self.sees([(ROOT, 1), ((2, 0), 0), ((3, 0), 0), ((2, 0), 1), ((2, 0), 2), (ROOT, 2), (ROOT, 3)], NESTED, (4, 0),
                  (1, 0))
        self.sees([((2, 0), 1), ((2, 0), 2)], NESTED, (4, 0), (3, 0))
        self.assertIs(True, gap_sees(state=NESTED, thing=(4, 0), gap=((2, 0), 1), let=(3, 0)))
        self.assertIs(False, gap_sees(NESTED, (4, 0), ((3, 0), 0), (3, 0)))

    def test_no_let_of_the_rest(self):
        gap = (ROOT, 0)
        for value in (*STRANGE, (2, 0), (3, 0), (4, 0), (6, 0), (7, 0), ROOT):
            self.refused(NoThing, value, gap_sees, NESTED, (2, 0), gap, value)
        self.refused(NoThing, (3, 0), gap_sees, ABB, (3, 0), gap, (3, 0))
        self.assertIs(False, gap_sees(NESTED, (2, 0), gap, (1, 0)))
        nowhere = after("(a =) ((b =))", ("drop", (2, 0)))
        self.refused(NoThing, (3, 0), gap_sees, nowhere, (1, 0), gap, (3, 0))

    def test_let_scopes(self):
        self.tells([(2, 0), (3, 0), (5, 0), (6, 0)], let_scope(NESTED, (4, 0), (ROOT, 1)))
        self.tells([(5, 0)], let_scope(NESTED, (4, 0), ((2, 0), 1)))
        self.tells([], let_scope(NESTED, (4, 0), ((3, 0), 0)))
        self.tells([], let_scope(state=NESTED, thing=(4, 0), gap=(ROOT, 3)))
        self.tells([(1, 0), (6, 0)], let_scope(NESTED, (2, 0), (ROOT, 0)))


class DemandsTest(Case):
    def test_a_use_alone(self):
        self.tells([(5, 0)], demands_of(ABB, (5, 0)))
        self.tells([(5, 0)], kept_at(ABB, (5, 0), (ROOT, 2)))
        self.tells([], kept_at(ABB, (5, 0), (ROOT, 1)))

    def test_a_let_with_uses_below_it_and_left_behind(self):
        self.tells([(4, 0), (5, 0)], demands_of(state=ABB, thing=(3, 0)))
        self.tells([(5, 0)], kept_at(ABB, (3, 0), (ROOT, 0)))
        self.tells([(4, 0), (5, 0)], kept_at(ABB, (3, 0), (ROOT, 1)))
        self.tells([(4, 0)], kept_at(state=ABB, thing=(3, 0), gap=(ROOT, 2)))
        self.tells([], kept_at(ABB, (3, 0), ((1, 0), 1)))

    def test_uses_of_lets_that_are_moved_with_them_demand_nothing(self):
        self.tells([(4, 0)], demands_of(NESTED, (2, 0)))
        self.tells([], demands_of(State(made_of("((a =) a)")), (1, 0)))

    def test_own_uses_below_a_let_demand_nothing(self):
        state = after("(a = ?) ?", ("point", (2, 0), (1, 0)), ("point", (3, 0), (1, 0)))
        self.tells([(3, 0)], demands_of(state, (1, 0)))

    def test_uses_that_point_to_no_let_that_is_in(self):
        made = "(a =) ? (1)"
        for binder in (None, ROOT, (2, 0), (3, 0), (4, 0)):
            state = after(made, ("point", (2, 0), binder))
            self.tells([], demands_of(state, (2, 0)))
            self.tells([], demands_of(state, (1, 0)))
        state = after(made, ("point", (2, 0), (1, 0)), ("drop", (1, 0)))
        self.tells([], demands_of(state, (2, 0)))
        self.tells([(2, 0)], demands_of(state, (1, 0)))

    def test_lost_uses_demand_their_binder_all_the_same(self):
        state = after("? (a =)", ("point", (1, 0), (2, 0)))
        self.tells([(1, 0)], demands_of(state, (1, 0)))
        self.tells([(1, 0)], kept_at(state, (1, 0), (ROOT, 1)))
        self.tells([(1, 0)], demands_of(state, (2, 0)))
        self.tells([(1, 0)], kept_at(state, (2, 0), (ROOT, 0)))
        self.tells([], kept_at(state, (2, 0), (ROOT, 1)))

    def test_uses_that_are_not_in(self):
        state = after("(a =) (a) a", ("drop", (2, 0)))
        self.tells([(4, 0)], demands_of(state, (1, 0)))
        self.tells([(3, 0)], demands_of(state, (2, 0)))
        self.tells([(3, 0)], demands_of(state, (3, 0)))
        self.tells([], kept_at(state, (2, 0), (ROOT, 0)))
        self.tells([(3, 0)], kept_at(state, (2, 0), (ROOT, 1)))


class BestTest(Case):
    def test_best_gaps(self):
        self.tells(2, most_kept(ABB, (3, 0)))
        self.tells([(ROOT, 1)], best_gaps(ABB, (3, 0)))
        self.tells(2, most_kept(state=ABB, thing=(3, 0)))
        self.tells([(ROOT, 1)], best_gaps(state=ABB, thing=(3, 0)))

    def test_without_demands_all_gaps_are_free(self):
        self.tells(0, most_kept(ABB, (2, 0)))
        self.tells(gaps_of(ABB, (2, 0)), best_gaps(ABB, (2, 0)))
        self.tells([(ROOT, 0, 3), ((1, 0), 0, 0), ((3, 0), 0, 1)], free_runs(ABB, (2, 0)))
        state = State(made_of("1 2"))
        self.tells([(ROOT, 0, 1)], free_runs(state=state, thing=(1, 0)))

    def test_free_runs_end_within_one_thing(self):
        self.tells([(ROOT, 1, 3), ((2, 0), 0, 2), ((3, 0), 0, 0)], free_runs(NESTED, (4, 0)))
        self.tells([((2, 0), 1, 2)], free_runs(NESTED, (5, 0)))
        self.tells([(ROOT, 0, 0)], free_runs(NESTED, (1, 0)))

    def test_no_free_gap(self):
        # The use within the let wants to be behind b, the use ahead of b wants the let ahead of it.
        state = after("(a = ?) a (b =)", ("point", (2, 0), (4, 0)))
        self.tells([], free_runs(state, (1, 0)))
        self.tells(1, most_kept(state, (1, 0)))
        self.tells([(ROOT, 0), (ROOT, 2)], best_gaps(state, (1, 0)))
        self.tells((1, ROOT, 0), best_move(state, (1, 0)))

    def test_the_moved_things_own_neighbours(self):
        state = State(made_of("(a =) a (b =) b"))
        self.tells([(ROOT, 1, 3), ((3, 0), 0, 0)], free_runs(state, (2, 0)))
        self.tells([(ROOT, 0, 2)], free_runs(state, (3, 0)))


class KeysTest(Case):
    def test_between_the_keys_of_the_neighbours(self):
        state = after("1 2 3 4", ("move", (2, 0), ROOT, 10), ("move", (3, 0), ROOT, 20))
        # Without 4 (key 3): 1 has the key 0, 2 has 10, 3 has 20.
        self.tells([(0, 9), (10, 19), (20, 999)],
                   [keys_at(state, (4, 0), (ROOT, place)) for place in (1, 2, 3)])
        self.tells(None, keys_at(state, (4, 0), (ROOT, 0)))
        self.tells((0, 9), keys_at(state=state, thing=(4, 0), gap=(ROOT, 1)))

    def test_an_empty_holder(self):
        self.tells((0, 999), keys_at(State(made_of("() 1")), (2, 0), ((1, 0), 0)))

    def test_no_room(self):
        state = after("1 2 3 4", ("move", (1, 0), ROOT, 5), ("move", (2, 0), ROOT, 5), ("move", (3, 0), ROOT, 999))
        self.tells([(0, 4), None, (5, 998), (999, 999)],
                   [keys_at(state, (4, 0), (ROOT, place)) for place in range(4)])
        state = after("1 2 3", ("move", (1, 0), ROOT, 999), ("move", (2, 0), ROOT, 999))
        self.tells([(0, 998), None, (999, 999)], [keys_at(state, (3, 0), (ROOT, place)) for place in range(3)])

    def test_the_own_key_does_not_count(self):
        state = State(made_of("1 2 3"))
        self.tells((0, 1), keys_at(state, (2, 0), (ROOT, 1)))

    def test_best_moves(self):
        self.tells((0, ROOT, 0), best_move(ABB, (3, 0)))
        self.tells((0, ROOT, 1), best_move(ABB, (5, 0)))
        self.tells((0, (1, 0), 0), best_move(state=State(made_of("(a =) 1")), thing=(2, 0)))

    def test_gaps_without_keys_are_no_moves(self):
        # The let's use stands first with key 0, so there is no key for a move ahead of it.
        state = after("(a =) a", ("move", (1, 0), ROOT, 1), ("move", (2, 0), ROOT, 0))
        self.tells([(ROOT, 0)], best_gaps(state, (1, 0)))
        self.tells(None, keys_at(state, (1, 0), (ROOT, 0)))
        self.tells((1, ROOT, 0), best_move(state, (1, 0)))


class NarrowestTest(Case):
    def test_the_last_gap_with_all_in_its_let_scope(self):
        self.tells((ROOT, 3), narrowest_gap(NESTED, []))
        self.tells(((2, 0), 1), narrowest_gap(NESTED, [(4, 0)]))
        self.tells(((2, 0), 1), narrowest_gap(NESTED, ((5, 0), (4, 0), (4, 0))))
        self.tells((ROOT, 1), narrowest_gap(NESTED, [(4, 0), (6, 0)]))
        self.tells((ROOT, 2), narrowest_gap(NESTED, [(6, 0)]))
        self.tells((ROOT, 0), narrowest_gap(state=NESTED, things=[(1, 0), (3, 0)]))
        self.tells(((2, 0), 0), narrowest_gap(NESTED, [(3, 0)]))

    def test_without_things_at_all(self):
        self.tells((ROOT, 0), narrowest_gap(State(Book()), ()))

    def test_wrong_values(self):
        for value in (*STRANGE, made_of("1")):
            self.refused(NoState, value, narrowest_gap, value, None)
        self.refuses_rows(NoThings, lambda things: narrowest_gap(NESTED, things), NESTED.line()[1:], twice=True)
        nowhere = after("(1) 2", ("drop", (1, 0)))
        for thing in ((1, 0), (2, 0), ROOT, (4, 0)):
            self.refused(NoThings, 1, narrowest_gap, nowhere, [(3, 0), thing])


class WrongTest(Case):
    CALLS = (gaps_of, demands_of, most_kept, best_gaps, free_runs, best_move)
    AT = (let_scope, kept_at, keys_at)

    def test_no_state(self):
        for value in (*STRANGE, made_of("1"), State):
            for call in self.CALLS:
                self.refused(NoState, value, call, value, None)
            for call in self.AT:
                self.refused(NoState, value, call, value, None, None)
            self.refused(NoState, value, gap_sees, value, None, None, None)

    def test_no_thing(self):
        undone = State(made_of("1 2").followed(0, [("undo", (2, 0))]))
        for value in (*STRANGE, ROOT, (2, 0), (3, 0), (1, 1)):
            if undone.is_there(value) and value != ROOT:
                continue
            for call in self.CALLS:
                self.refused(NoThing, value, call, undone, value)
            for call in self.AT:
                self.refused(NoThing, value, call, undone, value, None)
            self.refused(NoThing, value, gap_sees, undone, value, None, None)

    def test_no_gap(self):
        bent = (((3, 0), 0), ((2, 0), 0), (ROOT, 3), (ROOT, -1), ((1, 0), 2), (ROOT, True), (ROOT, False), [ROOT, 0],
                (ROOT, 0, 0), (ROOT,), ((False, 0), 0), ([0, 0], 0), (ROOT, None), ROOT, ((9, 0), 0), (ROOT, 1.0),
                (ROOT, "0"), (ROOT, (0,)), "gap")
        good = [repr(gap) for gap in gaps_of(ABB, (3, 0))]
        for value in [value for value in (*bent, *STRANGE) if repr(value) not in good]:
            for call in self.AT:
                self.refused(NoGap, value, call, ABB, (3, 0), value)
            self.refused(NoGap, value, gap_sees, ABB, (3, 0), value, None)


class RandomTest(Case):
    def agree(self, state, view, thing):
        plant = view.rest(thing)
        gaps = view.gaps(plant)
        demands = view.demands(thing)
        kept = {gap: view.kept(thing, gap) for gap in gaps}
        most = max(len(row) for row in kept.values())
        self.tells(gaps, gaps_of(state, thing))
        self.tells(demands, demands_of(state, thing))
        self.tells(most, most_kept(state, thing))
        self.tells([gap for gap in gaps if len(kept[gap]) == most], best_gaps(state, thing))
        free = [gap for gap in gaps if kept[gap] == demands]
        told = free_runs(state, thing)
        self.assertEqual(sorted(free), sorted((under, at) for under, one, two in told for at in range(one, two + 1)))
        self.assertEqual(told, sorted(told, key=lambda run: gaps.index(run[:2])))
        for under, first, last in told:
            self.assertFalse({(under, first - 1), (under, last + 1)} & set(free))
        for gap in gaps:
            self.tells(kept[gap], kept_at(state, thing, gap))
            planted = view.planted(plant, gap, "let")
            self.tells(planted.scopes[MOVED], let_scope(state, thing, gap))
            for let in plant.lets:
                self.assertIs(MOVED in planted.scopes[let], gap_sees(state, thing, gap, let))
        self.agree_on_moves(state, view, thing, kept)

    def agree_on_moves(self, state, view, thing, kept):
        keys = {gap: view.keys(thing, gap) for gap in kept}
        for gap in kept:
            self.tells(keys[gap], keys_at(state, thing, gap))
        lost = {gap: len(view.demands(thing)) - len(kept[gap]) for gap in kept if keys[gap] is not None}
        best = [gap for gap in lost if lost[gap] == min(lost.values())][0]
        self.tells((lost[best], best[0], keys[best][0]), best_move(state, thing))

    def test_as_the_document_says(self):
        for seed, (state, view) in enumerate(drawn(70, 14)):
            things = [thing for thing in view.kinds if thing != ROOT]
            for thing in random.Random(seed).sample(things, min(4, len(things))):
                self.agree(state, view, thing)
        for state, view in scattered(15):
            for thing in view.lets[:3]:
                self.agree(state, view, thing)

    def test_wild_books(self):
        for seed in range(12):
            deeds = random_deeds(seed, 26, hands=seed % 4 + 1, meeting=0.6)
            state, view = State(Book(deeds)), View(Model(deeds))
            for thing in [thing for thing in view.kinds if thing != ROOT][:4]:
                self.agree(state, view, thing)

    def test_moves_lead_into_their_gaps_and_keep_what_is_told(self):
        for seed in range(40):
            book = random_book(seed, 16)
            state, _ = shown(book)
            rng = random.Random(seed)
            for thing in rng.sample(state.things(), min(3, len(state.things()))):
                for gap in gaps_of(state, thing):
                    keys = keys_at(state, thing, gap)
                    for key in [] if keys is None else {keys[0], keys[1], rng.randint(*keys)}:
                        moved = State(book.followed(rng.randrange(4), [("move", thing, gap[0], key)]))
                        self.assertEqual(thing, moved.under(gap[0])[gap[1]])
                        bound = [use for use in demands_of(state, thing) if told_use(moved, use)[0] == "bound"]
                        self.tells(bound, kept_at(state, thing, gap))

    def test_the_narrowest_gap(self):
        for seed, (state, view) in enumerate(drawn(60, 14)):
            rng = random.Random(seed)
            gaps = view.gaps(view.plant)
            for many in (0, 1, 1, 2, 3):
                things = [rng.choice(view.line[1:]) for _ in range(many)] if len(view.line) > 1 else []
                fitting = [gap for gap in gaps
                           if set(things) <= set(view.planted(view.plant, gap, "let").scopes[MOVED])]
                self.tells(fitting[-1], narrowest_gap(state, things))
