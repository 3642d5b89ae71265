"""The examples of the document that need only what stands."""

from sharedscopes.books import Book
from sharedscopes.fates import fates_of
from sharedscopes.late import front_of, ways_out
from sharedscopes.plays import play_of
from sharedscopes.states import State
from tests.samples import Case


class ExamplesTest(Case):
    def test_two_moves_that_would_make_a_ring(self):
        made = [((1, 0), (0, 0, 0, 0), ("make", "block", (0, 0), 0, None)),
                ((2, 0), (1, 0, 0, 0), ("make", "block", (0, 0), 1, None))]
        book = Book(made + [((3, 0), (2, 0, 0, 0), ("move", (1, 0), (2, 0), 0)),
                            ((3, 1), (2, 0, 0, 0), ("move", (2, 0), (1, 0), 0))])
        rows = [((3, 0), "done", (((2, 0), (2, 0)),)), ((3, 1), "ring", (((1, 0), (3, 0)), ((2, 0), None)))]
        fates = {(1, 0): ("replaced", (3, 0)), (2, 0): ("stands", None), (3, 0): ("stands", None),
                 (3, 1): ("ring", (3, 0))}
        self.tells((rows, fates, [(3, 0)], (0, 2)),
                   (play_of(book)[2:], fates_of(book), ways_out(book, (3, 1)), front_of(book)))

    def test_the_line_of_the_first_example(self):
        book = Book().followed(0, [("make", "let", (0, 0), 1, "x"), ("make", "number", (1, 0), 0, 5),
                                   ("make", "use", (0, 0), 5, (1, 0))])
        self.tells([(0, 0), (1, 0), (2, 0), (3, 0)], State(book).line())

    def test_the_fates_of_the_second_example(self):
        book = Book([((1, 0), (0, 0, 0, 0), ("make", "let", (0, 0), 1, "x")),
                     ((2, 0), (1, 0, 0, 0), ("wish", (1, 0), "y")), ((2, 1), (1, 0, 0, 0), ("wish", (1, 0), "z"))])
        self.tells({(1, 0): ("stands", None), (2, 0): ("overruled", (2, 1)), (2, 1): ("stands", None)}, fates_of(book))
