"""The examples of the document."""

from sharedscopes.becoming import least_number, least_of_all, told_pairs
from sharedscopes.books import Book
from sharedscopes.fates import fates_of
from sharedscopes.gappapers import gap_paper
from sharedscopes.gaps import best_gaps, best_move, gaps_of
from sharedscopes.hands import Hands
from sharedscopes.late import front_of, ways_out
from sharedscopes.namings import fewest_names
from sharedscopes.plays import play_of
from sharedscopes.reading import made_of
from sharedscopes.states import State
from sharedscopes.values import value_of
from sharedscopes.writing import text_of
from tests.samples import Case


class ExamplesTest(Case):
    def test_two_moves_that_would_make_a_ring(self):
        made = [((1, 0), (0, 0, 0, 0), ("make", "block", (0, 0), 0, None)),
                ((2, 0), (1, 0, 0, 0), ("make", "block", (0, 0), 1, None))]
        book = Book(made + [((3, 0), (2, 0, 0, 0), ("move", (1, 0), (2, 0), 0)),
                            ((3, 1), (2, 0, 0, 0), ("move", (2, 0), (1, 0), 0))])
        rows = [((3, 0), "done", (((2, 0), (2, 0)),)), ((3, 1), "ring", (((1, 0), (3, 0)), ((2, 0), None)))]
        fates = {(1, 0): ("replaced", (3, 0)), (2, 0): ("stands", None), (3, 0): ("stands", None),
                 (3, 1): ("ring", (3, 0))}
        self.tells((rows, fates, [(3, 0)], (0, 2)),
                   (play_of(book)[2:], fates_of(book), ways_out(book, (3, 1)), front_of(book)))

    def test_the_text_the_value_and_the_line(self):
        book = Book().followed(0, [("make", "let", (0, 0), 1, "x"), ("make", "number", (1, 0), 0, 5),
                                   ("make", "use", (0, 0), 5, (1, 0))])
        state = State(book)
        self.tells(("(x = 5) x", 5, [(0, 0), (1, 0), (2, 0), (3, 0)]), (text_of(state), value_of(state, (0, 0)), state.line()))

    def test_two_hands(self):
        hands = Hands(2)
        made = hands.do(0, ("make", "let", (0, 0), 1, "x"))
        hands.ask(1, 0)
        done = [hands.do(0, ("wish", made, "y")), hands.do(1, ("wish", made, "z"))]
        more = hands.ask(0, 1)
        fates = {(1, 0): ("stands", None), (2, 0): ("overruled", (2, 1)), (2, 1): ("stands", None)}
        self.tells(([(2, 0), (2, 1)], [(2, 1)], "(z =)", fates),
                   (done, more, text_of(State(hands.shown(0))), fates_of(hands.shown(0))))

    def test_wishes_that_meet(self):
        book = made_of("(x = 1) (y = 2) x")
        state = State(book.followed(0, [("wish", (3, 0), "x")]))
        self.tells(("(x1 = 1) (x = 2) x1", "(x = 1) (x1 = 2) x", (2, (3, 0))),
                   (text_of(state), text_of(state, {(1, 0): 3}), fewest_names(state)))

    def test_gaps(self):
        state = State(made_of("(a = 1) (b = a) b"))
        self.tells(([((0, 0), 0), ((1, 0), 0), ((1, 0), 1), ((0, 0), 1), ((0, 0), 2)], [((0, 0), 1)], (0, (0, 0), 0),
                    ("gap", ((0, 0), 1), (((4, 0),), ((5, 0),)))),
                   (gaps_of(state, (3, 0)), best_gaps(state, (3, 0)), best_move(state, (3, 0)),
                    gap_paper(state, (3, 0))))

    def test_becoming(self):
        book = made_of("1 2")
        pairs = told_pairs(book, "9 1 2")
        self.tells(((((1, 0), (0,)), ((2, 0), (1,))), 3, (2, (((1, 0), (0,)), ((2, 0), (2,))))),
                   (pairs, least_number(book, "9 1 2", pairs), least_of_all(book, "9 1 2")))
