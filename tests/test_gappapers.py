"""Point [12] and section gappapers.py."""

import itertools
import random

from sharedscopes.books import Book
from sharedscopes.errors import NoState, NoThing
from sharedscopes.gappapers import accepts_gap, at_odds, gap_paper
from sharedscopes.gaps import demands_of, gaps_of, kept_at, most_kept
from sharedscopes.reading import made_of
from sharedscopes.states import State
from tests.model import Model
from tests.programs import drawn, scattered
from tests.samples import ROOT, STRANGE, Case, random_deeds
from tests.views import View

# Let a (1, 0) with use a... let b (3, 0) with use a (4, 0), use b (5, 0).
ABB = State(made_of("(a = 1) (b = a) b"))

# The use (2, 0) in let a (1, 0) wants to be behind b (4, 0); the uses (3, 0) and (5, 0) want a ahead of them.
ODDS = State(made_of("(a = ?) a (b =) a").followed(0, [("point", (2, 0), (4, 0))]))


class OddsTest(Case):
    def test_no_gap_keeps_both(self):
        self.assertIs(True, at_odds(ODDS, (1, 0), (2, 0), (3, 0)))
        self.assertIs(True, at_odds(ODDS, (1, 0), (3, 0), (2, 0)))
        self.assertIs(False, at_odds(ODDS, (1, 0), (2, 0), (5, 0)))
        self.assertIs(False, at_odds(ODDS, (1, 0), (3, 0), (5, 0)))
        self.assertIs(False, at_odds(state=ABB, thing=(3, 0), one=(4, 0), other=(5, 0)))

    def test_like_ones_are_not(self):
        for use in demands_of(ODDS, (1, 0)):
            self.assertIs(False, at_odds(ODDS, (1, 0), use, use))

    def test_no_demand(self):
        for value in (*STRANGE, ROOT, (1, 0), (4, 0), (6, 0)):
            if value not in demands_of(ODDS, (1, 0)):
                self.refused(NoThing, value, at_odds, ODDS, (1, 0), value, None)
                self.refused(NoThing, value, at_odds, ODDS, (1, 0), (2, 0), value)
        self.refused(NoThing, (4, 0), at_odds, ABB, (5, 0), (4, 0), (5, 0))


class PaperTest(Case):
    def test_without_demands(self):
        self.tells(("gap", (ROOT, 0), ()), gap_paper(ABB, (2, 0)))
        self.tells(("gap", (ROOT, 0), ()), gap_paper(state=State(made_of("1")), thing=(1, 0)))

    def test_told_papers(self):
        self.tells(("gap", (ROOT, 1), (((4, 0),), ((5, 0),))), gap_paper(ABB, (3, 0)))
        self.tells(("gap", (ROOT, 0), (((2, 0), (3, 0)), ((5, 0),))), gap_paper(ODDS, (1, 0)))

    def test_uses_of_the_rest_come_first_and_then_the_others_by_rank(self):
        # The uses in the block want a, b and c; those ahead of it point to nothing that is moved.
        state = State(made_of("(a =) (b = (c =) ?) (d =) (a b d ?)").followed(0, [("point", (9, 0), (3, 0))]))
        self.tells([(7, 0), (8, 0), (9, 0)], demands_of(state, (6, 0))[:3])
        self.tells(View(Model(made_of("(a =) (b = (c =) ?) (d =) (a b d ?)").followed(
            0, [("point", (9, 0), (3, 0))]).deeds())).told_groups((6, 0)), gap_paper(state, (6, 0))[2])

    def test_papers_of_others(self):
        right = [("gap", (ROOT, 0), (((2, 0), (3, 0)), ((5, 0),))), ("gap", (ROOT, 2), (((2, 0), (3, 0)), ((5, 0),)))]
        for gap in gaps_of(ODDS, (1, 0)):
            value = ("gap", gap, (((2, 0), (3, 0)), ((5, 0),)))
            self.assertIs(len(kept_at(ODDS, (1, 0), gap)) == 2, accepts_gap(ODDS, (1, 0), value))
        self.assertIs(True, accepts_gap(state=ODDS, thing=(1, 0), value=right[0]))
        # Without demands any gap will do.
        for gap in gaps_of(ABB, (2, 0)):
            self.assertIs(True, accepts_gap(ABB, (2, 0), ("gap", gap, ())))

    def test_bent_papers(self):
        gap, one, two = (ROOT, 0), ((2, 0), (3, 0)), ((5, 0),)
        self.assertIs(True, accepts_gap(ODDS, (1, 0), ("gap", gap, (one, two))))
        for bent in ((two, one), (one,), (two,), (one, two, ()), ((), one, two), (one, two, two), (one, one), [one, two],
                     (list(one), two), (one, list(two)), (one[::-1], two), (((2, 0),), ((3, 0),), two), (one, ((3, 0),)),
                     (((2, 0), (3, 0), (5, 0)),), (((2, 0), (5, 0)), ((3, 0),)), (((2, 0),), ((3, 0), (5, 0))),
                     (one, ((5, 0), (5, 0))), (((2, 0), (2, 0), (3, 0)), two), (one, ((5, False),)), (one, ([5, 0],)),
                     (one, ((4, 0),)), (one, (ROOT,)), (one, (None,)), (one, None), None, 2, "ab", (), ((), ()),
                     (one, (two,)), (one, (5, 0)), (((2, 0), None), two), (((2, 0), (3, "0")), two),
                     (((2, 0), 3), two)):
            self.assertIs(False, accepts_gap(ODDS, (1, 0), ("gap", gap, bent)), bent)
        for bent in (*STRANGE, (ROOT, 1), (ROOT, 4), (ROOT, False), [ROOT, 0], ((False, 0), 0), ((1, 0), 0), ((9, 0), 0)):
            self.assertIs(False, accepts_gap(ODDS, (1, 0), ("gap", bent, (one, two))), bent)
        value = ("gap", gap, (one, two))
        for bent in (*STRANGE, list(value), value[:2], value[1:], (*value, None), ("gaps", *value[1:]),
                     (b"gap", *value[1:]), (None, *value[1:]), value[::-1]):
            self.assertIs(False, accepts_gap(ODDS, (1, 0), bent), bent)

    def test_a_gap_that_keeps_more_or_less_than_there_are_groups(self):
        singles = tuple((use,) for use in demands_of(ODDS, (1, 0)))
        for gap in gaps_of(ODDS, (1, 0)):
            self.assertIs(False, accepts_gap(ODDS, (1, 0), ("gap", gap, singles)))

    def test_wrong_values(self):
        for value in (*STRANGE, made_of("1")):
            self.refused(NoState, value, at_odds, value, None, None, None)
            self.refused(NoState, value, gap_paper, value, None)
            self.refused(NoState, value, accepts_gap, value, None, None)
        for value in (*STRANGE, ROOT, (6, 0), (7, 0)):
            if value == ROOT or not ODDS.is_there(value):
                self.refused(NoThing, value, at_odds, ODDS, value, None, None)
                self.refused(NoThing, value, gap_paper, ODDS, value)
                self.refused(NoThing, value, accepts_gap, ODDS, value, None)


class RandomTest(Case):
    def cases(self):
        for state, view in scattered(60):
            for thing in state.under(ROOT):
                if len(state.below(thing)) > 1:
                    yield state, view, thing
        for seed, (state, view) in enumerate(drawn(40, 16)):
            for thing in random.Random(seed).sample(state.things(), min(4, len(state.things()))):
                yield state, view, thing
        for seed in range(8):
            deeds = random_deeds(seed, 30, hands=seed % 4 + 1, meeting=0.6)
            state, view = State(Book(deeds)), View(Model(deeds))
            for thing in state.things()[:4]:
                yield state, view, thing

    def test_told_papers(self):
        at_odds_found = 0
        for state, view, thing in self.cases():
            paper = gap_paper(state, thing)
            best = [gap for gap in gaps_of(state, thing) if len(kept_at(state, thing, gap)) == most_kept(state, thing)]
            self.tells(("gap", best[0], view.told_groups(thing)), paper)
            self.assertIs(True, accepts_gap(state, thing, paper))
            at_odds_found += len(paper[2]) < len(demands_of(state, thing))
        self.assertGreater(at_odds_found, 5)

    def test_groups_of_many_demands(self):
        """The order in which the groups take the demands, and that all of a group are at odds, is seen in few states."""
        unlike = 0
        for state, view in scattered(220, 20):
            for thing in state.things():
                demands = demands_of(state, thing)
                paper = gap_paper(state, thing) if len(demands) > 1 else None
                if paper is not None and len(paper[2]) < len(demands):
                    self.tells(view.told_groups(thing), paper[2])
                    unlike += view.told_groups(thing, demands) != paper[2]
        self.assertGreater(unlike, 0)

    def test_demands_at_odds(self):
        for state, view, thing in itertools.islice(self.cases(), 80):
            for one in demands_of(state, thing)[:4]:
                for other in demands_of(state, thing):
                    self.assertIs(view.odds(thing, one, other), at_odds(state, thing, one, other))

    def test_right_papers_show_the_most(self):
        """All ways to put the demands into groups are tried, with all gaps."""
        for state, view, thing in itertools.islice(self.cases(), 150):
            demands = view.demands(thing)
            if len(demands) > 5:
                continue
            odds = {(one, other) for one in demands for other in demands if view.odds(thing, one, other)}
            for groups in parts(demands):
                fits = all(pair in odds for group in groups for pair in itertools.combinations(group, 2))
                told = tuple(sorted(tuple(sorted(group)) for group in groups))
                for gap in gaps_of(state, thing):
                    is_right = fits and len(view.kept(thing, gap)) == len(groups)
                    self.assertIs(is_right, accepts_gap(state, thing, ("gap", gap, told)))
                    if is_right:
                        self.assertEqual(most_kept(state, thing), len(groups))


def parts(rows):
    """All ways to put the rows into groups."""
    if not rows:
        yield []
        return
    for groups in parts(rows[1:]):
        yield [[rows[0]], *groups]
        for at, group in enumerate(groups):
            yield [*groups[:at], [rows[0], *group], *groups[at + 1:]]
