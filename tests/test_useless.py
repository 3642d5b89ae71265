"""Point [20] and section useless.py."""

import itertools
import random

from sharedscopes.books import Book
from sharedscopes.errors import NoState, NoThing
from sharedscopes.reading import made_of
from sharedscopes.states import State
from sharedscopes.useless import accepts_use, needed_lets, use_paper, useless_lets
from tests.model import Model
from tests.programs import random_book, shown, tangled_items
from tests.samples import ROOT, STRANGE, Case, Likeness, random_deeds
from tests.views import View
from tests.worths import Worth, fewest_needed, is_needed_paper, is_useless_paper, needed_by, told_pairs

EMPTY = State(Book())

# Lets a (1, 0), b (3, 0), c (5, 0), d (8, 0); b is needed at the end, a by b, c by d alone, and d by nothing.
CHAIN = State(made_of("(a = 1) (b = a) (c = b 2) (d = c a) b"))
A, B, C, D = (1, 0), (3, 0), (5, 0), (8, 0)


class LetsTest(Case):
    def test_needed_and_useless(self):
        self.tells([A, B], needed_lets(CHAIN))
        self.tells([C, D], useless_lets(CHAIN))
        self.tells([], needed_lets(state=EMPTY))
        self.tells([], useless_lets(state=EMPTY))

    def test_lets_that_no_use_is_bound_at(self):
        state = State(made_of("(x =) (y = 1) ((z = 2))"))
        self.tells([], needed_lets(state))
        self.tells([(1, 0), (2, 0), (5, 0)], useless_lets(state))

    def test_lets_needed_only_by_a_use_below_another_let(self):
        self.tells([(1, 0), (2, 0)], useless_lets(State(made_of("(x =) (y = x)"))))
        self.tells([(1, 0), (2, 0)], needed_lets(State(made_of("(x =) (y = x) y"))))
        self.tells([(1, 0), (2, 0), (4, 0)], useless_lets(State(made_of("(x =) (y = x) (z = y)"))))

    def test_a_use_below_two_lets(self):
        # The use of x is below y and z.
        self.tells([(1, 0), (2, 0), (3, 0)], useless_lets(State(made_of("(x =) (y = (z = x))"))))
        self.tells([(1, 0), (3, 0)], useless_lets(State(made_of("(x =) (y = (z = x)) y"))))
        self.tells([], useless_lets(State(made_of("(x =) (y = (z = x) z) y"))))

    def test_lets_of_which_each_is_bound_below_the_other(self):
        # A use of x is below y, and one of y below a let in which x's is not: neither is needed from without.
        book = made_of("(x =) (y = x)").followed(0, [("make", "let", ROOT, 2, "z"), ("make", "use", (4, 0), 0, (2, 0)),
                                                     ("make", "use", (2, 0), 5, (1, 0))])
        self.tells([(1, 0), (2, 0), (4, 0)], useless_lets(State(book)))
        mutual = made_of("(a = (b = 1)) (c = a)").followed(0, [("make", "use", (4, 0), 3, (1, 0))])
        self.tells([(1, 0), (2, 0), (4, 0)], useless_lets(State(mutual)))

    def test_lost_uses_need_nothing(self):
        book = made_of("? (x =)").followed(0, [("point", (1, 0), (2, 0))])
        self.tells([(2, 0)], useless_lets(State(book)))

    def test_what_is_out_needs_nothing(self):
        book = made_of("(x =) (x)").followed(0, [("drop", (2, 0))])
        self.tells([(1, 0)], useless_lets(State(book)))
        self.tells([], useless_lets(State(made_of("(x =) x").followed(0, [("drop", (1, 0))]))))


class PaperTest(Case):
    def test_needed(self):
        self.tells(("needed", ((B, (11, 0)),)), use_paper(CHAIN, B))
        self.tells(("needed", ((B, (11, 0)), (A, (4, 0)))), use_paper(state=CHAIN, let=A))

    def test_useless(self):
        self.tells(("useless", (C, D)), use_paper(CHAIN, C))
        self.tells(("useless", (C, D)), use_paper(CHAIN, D))

    def test_by_rounds(self):
        # Round one has a and c, which come ascending; round two b, by the least use with which it can.
        state = State(made_of("(a = 1) (b = 2) (c = b b) (d = b) a c"))
        self.tells(("needed", (((1, 0), (10, 0)), ((5, 0), (11, 0)), ((3, 0), (6, 0)))), use_paper(state, (3, 0)))
        self.tells(("needed", (((1, 0), (10, 0)), ((5, 0), (11, 0)))), use_paper(state, (5, 0)))
        self.tells(("needed", (((1, 0), (10, 0)),)), use_paper(state, (1, 0)))
        self.tells(("useless", ((8, 0),)), use_paper(state, (8, 0)))

    def test_the_least_use_that_can(self):
        # The least use of b is below d, which is useless.
        state = State(made_of("(b = 2) (d = b) b b"))
        self.tells(("needed", (((1, 0), (5, 0)),)), use_paper(state, (1, 0)))

    def test_the_least_use_and_not_the_first_of_the_line(self):
        book = made_of("(b = 2) b b").followed(0, [("move", (3, 0), ROOT, 9)])
        self.tells(("needed", (((1, 0), (3, 0)),)), use_paper(State(book), (1, 0)))

    def test_a_let_of_one_round_does_not_serve_in_it(self):
        # The use of a in b stands once b does, so a comes behind b though it is less.
        state = State(made_of("(a =) (b = a) (c =) b c"))
        self.tells(("needed", (((2, 0), (5, 0)), ((4, 0), (6, 0)), ((1, 0), (3, 0)))), use_paper(state, (1, 0)))


class AcceptsTest(Case):
    def test_papers_of_others(self):
        state = State(made_of("(a = 1) (b = 2) (c = b b) (d = b) a c"))
        self.assertIs(True, accepts_use(state, (3, 0), ("needed", (((5, 0), (11, 0)), ((3, 0), (7, 0))))))
        self.assertIs(True, accepts_use(state=state, let=(5, 0), value=("needed", (((5, 0), (11, 0)),))))
        self.assertIs(True, accepts_use(state, (8, 0), ("useless", ((8, 0),))))
        # Less than all useless lets will do.
        self.assertIs(True, accepts_use(CHAIN, D, ("useless", (D,))))
        self.assertIs(True, accepts_use(CHAIN, C, ("useless", (C, D))))
        self.assertIs(False, accepts_use(CHAIN, C, ("useless", (C,))))
        self.assertIs(False, accepts_use(CHAIN, C, ("useless", (D,))))

    def test_bent_needed_papers(self):
        pairs = ((B, (11, 0)), (A, (4, 0)))
        self.assertIs(True, accepts_use(CHAIN, A, ("needed", pairs)))
        for bent in ((), pairs[:1], pairs[1:], pairs[::-1], pairs + pairs, pairs + pairs[1:], list(pairs), None, A, "ab",
                     ((B, (11, 0)), (A, (10, 0))), ((B, (11, 0)), (A, (4, 0), None)), ((B, (11, 0)), [A, (4, 0)]),
                     ((B, (4, 0)), (A, (4, 0))), ((B, (11, 0)), (A, (4, False))), ((B, (11, 0)), ((1, False), (4, 0))),
                     ((B, (11, 0)), (A, None)), ((B, (11, 0)), (None, (4, 0))), ((B, (11, 0)), (A, [4, 0])),
                     ((B, (11, 0)), (A, Likeness())), ((B, (11, 0)), Likeness()), ((B, (11, 0)), (A, (99, 0))),
                     ((B, (11, 0)), (A, ROOT)), (B, (11, 0), A, (4, 0)), {B: (11, 0), A: (4, 0)}):
            self.assertIs(False, accepts_use(CHAIN, A, ("needed", bent)), bent)

    def test_uses_of_other_lets(self):
        for bent in (((B, (11, 0)), (A, (11, 0))), ((A, (11, 0)),), ((B, (11, 0)), (C, (11, 0)), (A, (4, 0)))):
            self.assertIs(False, accepts_use(CHAIN, A, ("needed", bent)), bent)

    def test_other_words(self):
        for word in ("needless", "needed", None, b"useless", 0, Likeness(), ("useless",)):
            self.assertIs(False, accepts_use(CHAIN, C, (word, (C, D))), word)

    def test_bent_useless_papers(self):
        self.assertIs(True, accepts_use(CHAIN, C, ("useless", (C, D))))
        for bent in ((), (D, C), (C,), (D,), (C, C, D), (C, D, D), [C, D], (A, C, D), (C, (8, False)), (C, D, (9, 0)), None,
                     (C, D, ROOT), (C, None), (C, [8, 0]), (C, Likeness()), (C, D, (99, 0)), "ab", {C: True, D: True}):
            self.assertIs(False, accepts_use(CHAIN, C, ("useless", bent)), bent)

    def test_bent_papers(self):
        for value in (*STRANGE, ["needed", ((B, (11, 0)),)], ("needed", ((B, (11, 0)),), None), ("useless", ((B, (11, 0)),)),
                      ("needed",), (None, ((B, (11, 0)),)), (b"needed", ((B, (11, 0)),)), (Likeness(), ((B, (11, 0)),)),
                      (B, (11, 0)), ((B, (11, 0)),), ("useless", (B,)), ("useless", (A, B))):
            self.assertIs(False, accepts_use(CHAIN, B, value), value)

    def test_lets_of_which_each_is_bound_below_the_other_show_it_for_another(self):
        state = State(made_of("(x =) (y = x)"))
        self.assertIs(True, accepts_use(state, (1, 0), ("useless", ((1, 0), (2, 0)))))
        self.assertIs(False, accepts_use(state, (1, 0), ("useless", ((1, 0),))))


class WrongTest(Case):
    def test_no_state(self):
        for value in (*STRANGE, made_of("1"), State):
            self.refused(NoState, value, needed_lets, value)
            self.refused(NoState, value, useless_lets, value)
            self.refused(NoState, value, use_paper, value, None)
            self.refused(NoState, value, accepts_use, value, None, None)

    def test_no_let(self):
        out = State(made_of("(a = 1) (b = a) (c = b 2) (d = c a) b").followed(0, [("drop", D)]))
        for value in (*STRANGE, ROOT, (2, 0), (4, 0), (11, 0), (12, 0), (1, 1)):
            if value != (1, 0) or isinstance(value, Likeness):
                self.refused(NoThing, value, use_paper, CHAIN, value)
                self.refused(NoThing, value, accepts_use, CHAIN, value, None)
        self.refused(NoThing, D, use_paper, out, D)
        self.refused(NoThing, D, accepts_use, out, D, None)

    def test_new_lists(self):
        needed_lets(CHAIN).clear()
        useless_lets(CHAIN).clear()
        self.tells(([A, B], [C, D]), (needed_lets(CHAIN), useless_lets(CHAIN)))


class RandomTest(Case):
    def books(self):
        for seed in range(120):
            yield random_book(seed, 18)
        for seed in range(60):
            yield made_of(" ".join(tangled_items(random.Random(f"useless {seed}"), 16, [], [])))
        for seed in range(20):
            yield Book(random_deeds(seed, 40, hands=seed % 4 + 1, meeting=0.6))

    def cases(self, most=99):
        for seed, book in enumerate(self.books()):
            state, view = shown(book)
            if len(view.lets) <= most:
                yield random.Random(seed), book, state, view

    def test_the_fewest_by_trying_all(self):
        seen = 0
        for _, _, state, view in self.cases(8):
            needed = fewest_needed(view)
            self.tells(needed, needed_lets(state))
            self.tells(sorted(set(view.lets) - set(needed)), useless_lets(state))
            seen += 0 < len(needed) < len(view.lets)
        self.assertGreater(seen, 20)

    def test_told_papers(self):
        for _, _, state, view in self.cases():
            pairs = told_pairs(view)
            lets = [let for let, _ in pairs]
            useless = tuple(let for let in view.lets if let not in lets)
            for let in view.lets:
                paper = use_paper(state, let)
                told = ("needed", tuple(pairs[:lets.index(let) + 1])) if let in lets else ("useless", useless)
                self.tells(told, paper)
                self.assertIs(True, accepts_use(state, let, paper))

    def test_never_papers_of_both_kinds(self):
        right = [0, 0]
        for rng, _, state, view in self.cases():
            pairs = [(binder, use) for use, binder in view.bound.items()]
            for let in view.lets:
                for _ in range(6):
                    row = tuple(rng.sample(pairs, rng.randint(0, min(4, len(pairs)))))
                    if rng.random() < 0.5:
                        row = tuple(told_pairs(view)[:rng.randint(1, 5)])
                    if rng.random() < 0.3 and row:
                        row = row[:-1] + ((rng.choice(view.lets), row[-1][1]),)
                    lot = tuple(sorted(rng.sample(view.lets, rng.randint(1, len(view.lets)))))
                    if rng.random() < 0.5:
                        lot = tuple(one for one in view.lets if one not in needed_by(view, view.lets) or one == let)
                    self.assertIs(is_needed_paper(view, let, row), accepts_use(state, let, ("needed", row)))
                    self.assertIs(is_useless_paper(view, let, lot), accepts_use(state, let, ("useless", lot)))
                    if accepts_use(state, let, ("needed", row)):
                        right[0] += 1
                        self.assertIn(let, needed_lets(state))
                    if accepts_use(state, let, ("useless", lot)):
                        right[1] += 1
                        self.assertIn(let, useless_lets(state))
        self.assertTrue(min(right) > 50, right)

    def test_useless_lets_can_go_without_loss(self):
        for _, book, state, view in self.cases():
            lots = useless_lets(state)
            if len(book) + len(lots) > 60:
                continue
            _, behind = shown(book.followed(3, [("drop", let) for let in lots]))
            ahead, after = Worth(view), Worth(behind)
            for use in behind.uses:
                if use in view.bound:
                    self.tells(view.bound[use], behind.bound[use])
            for thing in behind.line:
                self.tells(ahead.value(thing), after.value(thing))

    def test_no_other_lot_that_can_go_holds_a_needed_let(self):
        tried = 0
        for _, book, state, view in self.cases(5):
            needed = set(needed_lets(state))
            for many in range(1, len(view.lets) + 1):
                for lot in itertools.combinations(view.lets, many):
                    if len(book) + len(lot) > 60:
                        continue
                    behind = View(Model(book.followed(3, [("drop", let) for let in lot]).deeds()))
                    if all(use in behind.bound for use in behind.uses if use in view.bound):
                        tried += 1
                        self.assertFalse(needed & set(lot), (lot, needed))
        self.assertGreater(tried, 50)
