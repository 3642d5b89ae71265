"""Point [11] and section scopes.py."""

from sharedscopes.books import Book
from sharedscopes.errors import NoState, NoThing
from sharedscopes.reading import made_of
from sharedscopes.scopes import (depth_of, lets_in, lost_uses, nearest_let, scope_of, told_use, uses_of,
                                 visible_lets)
from sharedscopes.states import State
from tests.programs import drawn, tangled
from tests.samples import ROOT, STRANGE, Case, random_deeds
from tests.model import Model
from tests.views import View

# Lets a and c under the root, b within a, d within the block (6, 0); uses (4, 0), (8, 0), (9, 0), (10, 0).
TEXT = "(a = (b = 1) b) (c =) ((d =) d a) c"
STATE = State(made_of(TEXT))


class NearestTest(Case):
    def test_the_last_let_ahead_under_the_same_thing(self):
        nearest = {ROOT: None, (1, 0): None, (2, 0): None, (3, 0): None, (4, 0): (2, 0), (5, 0): (1, 0),
                   (6, 0): (5, 0), (7, 0): (5, 0), (8, 0): (7, 0), (9, 0): (7, 0), (10, 0): (5, 0)}
        self.tells(nearest, {thing: nearest_let(STATE, thing) for thing in STATE.line()})
        self.tells((1, 0), nearest_let(state=STATE, thing=(5, 0)))

    def test_visible_lets_the_nearest_first(self):
        self.tells([], visible_lets(STATE, ROOT))
        self.tells([], visible_lets(STATE, (3, 0)))
        self.tells([(2, 0)], visible_lets(STATE, (4, 0)))
        self.tells([(7, 0), (5, 0), (1, 0)], visible_lets(STATE, (9, 0)))
        self.tells([(5, 0), (1, 0)], visible_lets(state=STATE, thing=(10, 0)))

    def test_depths(self):
        self.tells([0, 0, 1, 2], [depth_of(STATE, let) for let in ((1, 0), (2, 0), (5, 0), (7, 0))])
        self.tells(1, depth_of(state=STATE, let=(5, 0)))

    def test_lets_in(self):
        self.tells([(1, 0), (2, 0), (5, 0), (7, 0)], lets_in(STATE))
        self.tells([], lets_in(State(Book())))
        out = State(made_of(TEXT).followed(0, [("drop", (1, 0))]))
        self.tells([(5, 0), (7, 0)], lets_in(state=out))

    def test_the_order_of_keys_and_not_of_stamps(self):
        book = made_of("(a =) (b =) 1").followed(0, [("move", (1, 0), ROOT, 1)])
        self.tells([(1, 0), (2, 0)], visible_lets(State(book), (3, 0)))
        self.tells((2, 0), nearest_let(State(book), (1, 0)))


class ScopeTest(Case):
    def test_scopes(self):
        self.tells([(5, 0), (6, 0), (7, 0), (8, 0), (9, 0), (10, 0)], scope_of(STATE, (1, 0)))
        self.tells([(4, 0)], scope_of(STATE, (2, 0)))
        self.tells([(8, 0), (9, 0)], scope_of(STATE, (7, 0)))
        self.tells([], scope_of(State(made_of("(a = 1)")), (1, 0)))
        self.tells([(6, 0), (7, 0), (8, 0), (9, 0), (10, 0)], scope_of(state=STATE, let=(5, 0)))

    def test_in_the_order_of_the_line(self):
        book = made_of("(a =) 1 (2)").followed(0, [("move", (2, 0), ROOT, 9)])
        self.tells([(3, 0), (4, 0), (2, 0)], scope_of(State(book), (1, 0)))


class UsesTest(Case):
    def test_bound(self):
        self.tells(("bound", (1, 0)), told_use(STATE, (9, 0)))
        self.tells(("bound", (5, 0)), told_use(state=STATE, use=(10, 0)))
        self.tells([(9, 0)], uses_of(STATE, (1, 0)))
        self.tells([(8, 0)], uses_of(state=STATE, let=(7, 0)))
        self.tells([], lost_uses(STATE))
        self.tells([], lost_uses(State(Book())))

    def test_several_uses_of_one_let(self):
        book = made_of("(a =) a (a) (+ a)").followed(0, [("move", (2, 0), ROOT, 9)])
        self.tells([(2, 0), (4, 0), (6, 0)], uses_of(State(book), (1, 0)))

    def test_none(self):
        book = made_of("(a =) a").followed(0, [("point", (2, 0), None)])
        self.tells(("none",), told_use(State(book), (2, 0)))
        self.tells([(2, 0)], lost_uses(state=State(book)))
        self.tells([], uses_of(State(book), (1, 0)))

    def test_gone(self):
        made = made_of("(a = 1) (b =) a (3)")
        for binder in (ROOT, (2, 0), (4, 0), (5, 0), (6, 0)):
            book = made.followed(0, [("point", (4, 0), binder)])
            self.tells(("gone",), told_use(State(book), (4, 0)))
            self.tells([(4, 0)], lost_uses(State(book)))
        self.tells(("gone",), told_use(State(made.followed(0, [("drop", (1, 0))])), (4, 0)))
        self.tells(("gone",), told_use(State(made.followed(0, [("undo", (1, 0))])), (4, 0)))
        # A deed that is no make is the stamp of no thing.
        moved = made.followed(0, [("move", (3, 0), ROOT, 7), ("point", (4, 0), (7, 0))])
        self.tells(("gone",), told_use(State(moved), (4, 0)))
        # A let in what is placed nowhere is not in.
        inner = made_of("((a =) a) ?").followed(0, [("point", (4, 0), (2, 0)), ("drop", (1, 0))])
        self.tells(("gone",), told_use(State(inner), (4, 0)))
        self.tells([(4, 0)], lost_uses(State(inner)))

    def test_out(self):
        self.tells(("out",), told_use(State(made_of("(a = ?) a").followed(0, [("point", (2, 0), (1, 0))])), (2, 0)))
        late = made_of("(a =) a").followed(0, [("move", (1, 0), ROOT, 5)])
        self.tells(("out",), told_use(State(late), (2, 0)))
        inner = made_of("((a =)) ?").followed(0, [("point", (3, 0), (2, 0))])
        self.tells(("out",), told_use(State(inner), (3, 0)))

    def test_ascending(self):
        book = made_of("? ? ?").followed(0, [("move", (1, 0), ROOT, 5)])
        self.tells([(1, 0), (2, 0), (3, 0)], lost_uses(State(book)))


class WrongTest(Case):
    def test_no_state(self):
        for value in (*STRANGE, made_of(TEXT), State):
            for call in (nearest_let, visible_lets, scope_of, told_use, uses_of, depth_of):
                self.refused(NoState, value, call, value, None)
            self.refused(NoState, value, lets_in, value)
            self.refused(NoState, value, lost_uses, value)

    def test_no_thing(self):
        out = State(made_of(TEXT).followed(0, [("drop", (1, 0)), ("undo", (5, 0))]))
        for value in (*STRANGE, (11, 0), (12, 0), (1, 1), (999, 3)):
            for call in (nearest_let, visible_lets, scope_of, told_use, uses_of, depth_of):
                if not STATE.is_in(value):
                    self.refused(NoThing, value, call, STATE, value)
        for thing in ((1, 0), (2, 0), (3, 0), (4, 0), (5, 0)):
            for call in (nearest_let, visible_lets, scope_of, told_use, uses_of, depth_of):
                self.refused(NoThing, thing, call, out, thing)

    def test_other_kinds(self):
        for thing in STATE.line():
            if STATE.kind(thing) != "let":
                for call in (scope_of, uses_of, depth_of):
                    self.refused(NoThing, thing, call, STATE, thing)
            if STATE.kind(thing) != "use":
                self.refused(NoThing, thing, told_use, STATE, thing)


class RandomTest(Case):
    def agree(self, state, view):
        self.tells(view.lets, lets_in(state))
        for thing in view.line:
            self.tells(view.plant.visible(thing), visible_lets(state, thing))
            self.tells(view.plant.nearest(thing), nearest_let(state, thing))
        for let in view.lets:
            scope = scope_of(state, let)
            self.tells(view.plant.scopes[let], scope)
            self.tells([thing for thing in state.line() if thing in scope], scope)
            self.tells(len(view.plant.visible(let)), depth_of(state, let))
            self.tells(sorted(use for use in view.bound if view.bound[use] == let), uses_of(state, let))
        for use in view.uses:
            self.tells(view.told[use], told_use(state, use))
        self.tells(sorted(set(view.uses) - set(view.bound)), lost_uses(state))

    def test_as_the_document_says(self):
        for state, view in drawn(150, 18):
            self.agree(state, view)
        for state, view in tangled(30):
            self.agree(state, view)

    def test_wild_books(self):
        for seed in range(40):
            deeds = random_deeds(seed, 40, hands=seed % 4 + 1, meeting=0.6)
            self.agree(State(Book(deeds)), View(Model(deeds)))

    def test_a_use_is_bound_exactly_if_its_binder_is_visible(self):
        for state, _ in drawn(60, 18):
            for use in [thing for thing in state.line() if state.kind(thing) == "use"]:
                is_bound = told_use(state, use)[0] == "bound"
                self.assertEqual(state.content(use) in visible_lets(state, use), is_bound)
                self.assertEqual(not is_bound, use in lost_uses(state))
