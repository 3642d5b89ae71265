"""The examples of the document that need only what stands."""

from sharedscopes.books import Book
from sharedscopes.fates import fates_of
from sharedscopes.gappapers import gap_paper
from sharedscopes.gaps import best_gaps, best_move, gaps_of
from sharedscopes.late import front_of, ways_out
from sharedscopes.namings import fewest_names
from sharedscopes.plays import play_of
from sharedscopes.reading import made_of
from sharedscopes.states import State
from sharedscopes.writing import text_of
from tests.samples import Case


class ExamplesTest(Case):
    def test_two_moves_that_would_make_a_ring(self):
        made = [((1, 0), (0, 0, 0, 0), ("make", "block", (0, 0), 0, None)),
                ((2, 0), (1, 0, 0, 0), ("make", "block", (0, 0), 1, None))]
        book = Book(made + [((3, 0), (2, 0, 0, 0), ("move", (1, 0), (2, 0), 0)),
                            ((3, 1), (2, 0, 0, 0), ("move", (2, 0), (1, 0), 0))])
        rows = [((3, 0), "done", (((2, 0), (2, 0)),)), ((3, 1), "ring", (((1, 0), (3, 0)), ((2, 0), None)))]
        fates = {(1, 0): ("replaced", (3, 0)), (2, 0): ("stands", None), (3, 0): ("stands", None),
                 (3, 1): ("ring", (3, 0))}
        self.tells((rows, fates, [(3, 0)], (0, 2)),
                   (play_of(book)[2:], fates_of(book), ways_out(book, (3, 1)), front_of(book)))

    def test_the_text_and_the_line_of_the_first_example(self):
        book = Book().followed(0, [("make", "let", (0, 0), 1, "x"), ("make", "number", (1, 0), 0, 5),
                                   ("make", "use", (0, 0), 5, (1, 0))])
        state = State(book)
        self.tells(("(x = 5) x", [(0, 0), (1, 0), (2, 0), (3, 0)]), (text_of(state), state.line()))

    def test_the_text_and_the_fates_of_the_second_example(self):
        book = Book([((1, 0), (0, 0, 0, 0), ("make", "let", (0, 0), 1, "x")),
                     ((2, 0), (1, 0, 0, 0), ("wish", (1, 0), "y")), ((2, 1), (1, 0, 0, 0), ("wish", (1, 0), "z"))])
        fates = {(1, 0): ("stands", None), (2, 0): ("overruled", (2, 1)), (2, 1): ("stands", None)}
        self.tells(("(z =)", fates), (text_of(State(book)), fates_of(book)))

    def test_wishes_that_meet(self):
        book = made_of("(x = 1) (y = 2) x")
        state = State(book.followed(0, [("wish", (3, 0), "x")]))
        self.tells(("(x1 = 1) (x = 2) x1", "(x = 1) (x1 = 2) x", (2, (3, 0))),
                   (text_of(state), text_of(state, {(1, 0): 3}), fewest_names(state)))

    def test_gaps(self):
        state = State(made_of("(a = 1) (b = a) b"))
        self.tells(([((0, 0), 0), ((1, 0), 0), ((1, 0), 1), ((0, 0), 1), ((0, 0), 2)], [((0, 0), 1)], (0, (0, 0), 0),
                    ("gap", ((0, 0), 1), (((4, 0),), ((5, 0),)))),
                   (gaps_of(state, (3, 0)), best_gaps(state, (3, 0)), best_move(state, (3, 0)),
                    gap_paper(state, (3, 0))))
