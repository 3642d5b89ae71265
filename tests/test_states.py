"""Point [6] and section states.py."""

import random

from sharedscopes.books import Book
from sharedscopes.branches import all_branches
from sharedscopes.errors import NoBook, NoBranch, NoState, NoStamps, NoThing
from sharedscopes.states import State, at_branch, ends_of
from tests.model import Model
from tests.samples import NOTHING, ROOT, STRANGE, Case, random_deeds

BLOCK = ("make", "block", ROOT, 0, None)


def followed(*bodies):
    return Book().followed(0, bodies)


# The let (1, 0) with the number (2, 0), ahead of the sum (3, 0) with the uses (5, 0) and (4, 0), in this order.
BOOK = followed(("make", "let", ROOT, 3, "x"), ("make", "number", (1, 0), 0, 5), ("make", "sum", ROOT, 3, None),
                ("make", "use", (3, 0), 9, (1, 0)), ("make", "use", (3, 0), 2, None))


class ThingsTest(Case):
    def test_empty(self):
        for state in (State(Book()), State(book=Book(), without=())):
            self.tells([], state.things())
            self.tells([ROOT], state.line())
            self.tells([], state.under(ROOT))
            self.tells([], state.below(ROOT))
            self.tells([ROOT], ends_of(state))

    def test_the_root_is_a_block(self):
        for state in (State(Book()), State(BOOK)):
            self.tells("block", state.kind(ROOT))
            self.tells(None, state.content(ROOT))
            self.tells(None, state.place(ROOT))
            self.tells(None, state.holder(ROOT))
            self.assertIs(True, state.is_there(ROOT))
            self.assertIs(True, state.is_in(ROOT))

    def test_things(self):
        state = State(BOOK)
        self.tells([(1, 0), (2, 0), (3, 0), (4, 0), (5, 0)], state.things())
        self.tells(["let", "number", "sum", "use", "use"], [state.kind(thing) for thing in state.things()])
        self.tells(["x", 5, None, (1, 0), None], [state.content(thing) for thing in state.things()])
        self.tells([(ROOT, 3, (1, 0)), ((1, 0), 0, (2, 0)), (ROOT, 3, (3, 0)), ((3, 0), 9, (4, 0)),
                    ((3, 0), 2, (5, 0))],
                   [state.place(thing) for thing in state.things()])
        self.tells([ROOT, (1, 0), ROOT, (3, 0), (3, 0)], [state.holder(thing) for thing in state.things()])

    def test_order(self):
        state = State(BOOK)
        self.tells([(1, 0), (3, 0)], state.under(ROOT))
        self.tells([(5, 0), (4, 0)], state.under((3, 0)))
        self.tells([], state.under((4, 0)))
        self.tells([(1, 0), (2, 0), (3, 0), (5, 0), (4, 0)], state.below(ROOT))
        self.tells([(5, 0), (4, 0)], state.below((3, 0)))
        self.tells([], state.below((2, 0)))
        self.tells([ROOT, (1, 0), (2, 0), (3, 0), (5, 0), (4, 0)], state.line())
        self.tells([(2, 0), (1, 0), (5, 0), (4, 0), (3, 0), ROOT], ends_of(state))

    def test_arguments_by_name(self):
        state = State(book=BOOK, without=[(2, 0)])
        self.tells("let", state.kind(thing=(1, 0)))
        self.tells("x", state.content(thing=(1, 0)))
        self.tells((ROOT, 3, (1, 0)), state.place(thing=(1, 0)))
        self.tells([], state.under(thing=(1, 0)))
        self.tells(ROOT, state.holder(thing=(1, 0)))
        self.tells([], state.below(thing=(1, 0)))
        self.assertIs(True, state.is_there(value=(1, 0)))
        self.assertIs(False, state.is_in(value=(2, 0)))
        self.tells([(1, 0), (5, 0), (4, 0), (3, 0), ROOT], ends_of(state=state))

    def test_of_like_keys_the_deed_that_placed_last_stands_last(self):
        book = followed(BLOCK, BLOCK, BLOCK, ("move", (1, 0), ROOT, 0))
        self.tells([(2, 0), (3, 0), (1, 0)], State(book).under(ROOT))
        self.tells([(2, 0), (3, 0), (1, 0)], State(book.followed(1, [("wish", (2, 0), "x")])).under(ROOT))
        self.tells((ROOT, 0, (4, 0)), State(book).place((1, 0)))

    def test_keys_come_ahead_of_deeds_and_are_ordered_as_numbers(self):
        book = followed(("make", "block", ROOT, 10, None), ("make", "block", ROOT, 9, None),
                        ("make", "block", ROOT, 999, None), ("make", "block", ROOT, 0, None))
        self.tells([(4, 0), (2, 0), (1, 0), (3, 0)], State(book).under(ROOT))

    def test_contents_are_the_last_written(self):
        book = BOOK.followed(1, [("wish", (1, 0), "y"), ("set", (2, 0), 9), ("point", (5, 0), (3, 0)),
                                 ("wish", (1, 0), "z"),
                                 ("set", (1, 0), 7), ("point", (4, 0), None)])
        state = State(book)
        self.tells(["z", 9, None, None, (3, 0)], [state.content(thing) for thing in state.things()])
        self.tells((ROOT, 3, (1, 0)), state.place((1, 0)))

    def test_new_lists_each_time(self):
        state = State(BOOK)
        for call in (state.things, state.line, lambda: state.under(ROOT), lambda: state.below(ROOT),
                     lambda: ends_of(state)):
            told = call()
            call().clear()
            self.tells(told, call())
            self.assertTrue(told)


class PlacesTest(Case):
    def test_what_is_dropped_is_there_and_nowhere(self):
        state = State(BOOK.followed(0, [("drop", (3, 0))]))
        self.tells([(1, 0), (2, 0), (3, 0), (4, 0), (5, 0)], state.things())
        self.tells(None, state.place((3, 0)))
        self.tells(None, state.holder((3, 0)))
        self.tells(((3, 0), 9, (4, 0)), state.place((4, 0)))
        self.tells([(5, 0), (4, 0)], state.under((3, 0)))
        self.tells([(5, 0), (4, 0)], state.below((3, 0)))
        self.tells([(1, 0)], state.under(ROOT))
        self.tells([ROOT, (1, 0), (2, 0)], state.line())
        self.tells([(2, 0), (1, 0), ROOT], ends_of(state))
        self.tells([True, True, False, False, False], [state.is_in(thing) for thing in state.things()])
        self.tells([True] * 5, [state.is_there(thing) for thing in state.things()])
        self.tells("sum", state.kind((3, 0)))
        self.tells((1, 0), state.content((4, 0)))

    def test_what_is_placed_again_is_in_with_what_is_below_it(self):
        state = State(BOOK.followed(0, [("drop", (3, 0)), ("move", (3, 0), (1, 0), 0)]))
        self.tells([ROOT, (1, 0), (2, 0), (3, 0), (5, 0), (4, 0)], state.line())
        self.tells([(2, 0), (3, 0), (5, 0), (4, 0)], state.below((1, 0)))
        self.tells([(2, 0), (5, 0), (4, 0), (3, 0), (1, 0), ROOT], ends_of(state))

    def test_what_is_gone_is_not_there(self):
        state = State(BOOK.followed(0, [("undo", (3, 0))]))
        self.tells([(1, 0), (2, 0)], state.things())
        self.tells([ROOT, (1, 0), (2, 0)], state.line())
        for thing in ((3, 0), (4, 0), (5, 0)):
            self.assertIs(False, state.is_there(thing))
            self.assertIs(False, state.is_in(thing))
            self.refused(NoThing, thing, state.kind, thing)

    def test_without(self):
        state = State(BOOK, [(3, 0)])
        self.tells([(1, 0), (2, 0)], state.things())
        self.assertEqual(state, State(BOOK.followed(0, [("undo", (3, 0))])))
        book = BOOK.followed(0, [("undo", (3, 0))])
        self.assertEqual(State(BOOK), State(book, ((6, 0),)))
        self.assertEqual(State(Book()), State(BOOK, BOOK.listed()))


class AskingTest(Case):
    def test_any_value_may_be_asked(self):
        state = State(BOOK.followed(0, [("drop", (3, 0))]))
        for value in (*STRANGE, (6, 0), (1, 1), (True, 0), (1, False), (False, 0), (0, False), (1.0, 0), [1, 0],
                      (0.0, 0)):
            self.assertIs(False, state.is_there(value), value)
            self.assertIs(False, state.is_in(value), value)

    def test_no_thing(self):
        state = State(BOOK)
        for value in (*STRANGE, (6, 0), (1, 1), (False, 0), (True, 0), [0, 0]):
            for call in (state.kind, state.content, state.place, state.under, state.holder, state.below):
                self.refused(NoThing, value, call, value)

    def test_stamps_of_no_makes_are_no_things(self):
        state = State(followed(BLOCK, ("drop", (1, 0)), ("undo", (2, 0))))
        self.tells([(1, 0)], state.things())
        for value in ((2, 0), (3, 0)):
            self.refused(NoThing, value, state.kind, value)
            self.assertIs(False, state.is_there(value))

    def test_wrong_books_and_stamps(self):
        for value in (*STRANGE, [], State(BOOK)):
            self.refused(NoBook, value, State, value, None)
            self.refused(NoBook, value, at_branch, value, None)
        self.refuses_stamps(NoStamps, lambda stamps: State(BOOK, stamps), BOOK)

    def test_no_state(self):
        for value in (*STRANGE, BOOK, State):
            self.refused(NoState, value, ends_of, value)


class EqualityTest(Case):
    def test_like_things_kinds_contents_and_places(self):
        self.assertTrue(State(BOOK) == State(Book(BOOK.deeds()[::-1])))
        self.assertFalse(State(BOOK) != State(BOOK))
        self.assertTrue(State(BOOK) == State(BOOK.followed(2, [("set", (2, 0), 5)])))
        self.assertTrue(State(Book()) == State(followed(("drop", ROOT))))

    def test_unlike_ones(self):
        for body in (("set", (2, 0), 6), ("wish", (1, 0), "y"), ("point", (5, 0), ROOT), ("drop", (2, 0)), BLOCK,
                     ("move", (1, 0), ROOT, 4), ("move", (1, 0), ROOT, 3), ("undo", (5, 0))):
            self.assertTrue(State(BOOK) != State(BOOK.followed(0, [body])), body)
            self.assertFalse(State(BOOK) == State(BOOK.followed(0, [body])), body)

    def test_kinds(self):
        self.assertFalse(State(followed(BLOCK)) == State(followed(("make", "sum", ROOT, 0, None))))

    def test_things_that_are_nowhere_count_too(self):
        one = BOOK.followed(0, [("drop", (3, 0))])
        self.assertFalse(State(one) == State(BOOK.followed(0, [("undo", (3, 0))])))
        self.assertFalse(State(one) == State(one.followed(0, [("point", (4, 0), None)])))

    def test_other_classes(self):
        for value in (*STRANGE, BOOK, Book(), [ROOT]):
            self.assertFalse(State(Book()) == value)
            self.assertTrue(State(BOOK) != value)


class BranchTest(Case):
    def test_at_branch(self):
        book = BOOK.followed(1, [("drop", (3, 0))])
        self.assertEqual(State(book), at_branch(book, (5, 6, 0, 0)))
        self.assertEqual(State(BOOK), at_branch(book=book, branch=(5, 0, 0, 0)))
        self.assertEqual(State(Book()), at_branch(book, NOTHING))
        self.tells([ROOT, (1, 0), (2, 0)], at_branch(book, (2, 0, 0, 0)).line())
        self.tells([ROOT, (1, 0), (2, 0), (3, 0)], at_branch(book, (3, 0, 0, 0)).line())

    def test_no_branch(self):
        book = BOOK.followed(1, [("drop", (3, 0))])
        for value in (*STRANGE, (4, 6, 0, 0), [0, 0, 0, 0], (6, 0, 0, 0), (False, 0, 0, 0)):
            self.refused(NoBranch, value, at_branch, book, value)


class RandomTest(Case):
    def test_as_the_document_says(self):
        for seed in range(60):
            deeds = random_deeds(seed, 40, hands=seed % 4 + 1, meeting=0.6 if seed % 2 else 0.2)
            book = Book(deeds)
            for left in ((), tuple(book.listed()[seed % 5::5])):
                state, model = State(book, left), Model(deeds, left)
                self.tells(sorted(set(model.kinds) - {ROOT}), state.things())
                for thing in [ROOT, *state.things()]:
                    self.tells(model.kinds[thing], state.kind(thing))
                    self.tells(model.contents[thing], state.content(thing))
                    self.tells(model.places[thing], state.place(thing))
                    self.tells(model.under(thing), state.under(thing))
                    self.tells(model.begin(thing), state.below(thing))
                    self.assertEqual(model.below(thing), set(state.below(thing)))
                    self.assertIs(thing == ROOT or thing in model.begin(ROOT), state.is_in(thing))
                    self.assertNotIn(thing, state.below(thing))
                self.tells([ROOT, *model.begin(ROOT)], state.line())
                self.tells([*model.end(ROOT), ROOT], ends_of(state))

    def test_it_hangs_on_the_set_of_deeds_alone(self):
        for seed in range(20):
            deeds = random_deeds(seed, 30)
            state = State(Book(deeds))
            random.Random(seed).shuffle(deeds)
            self.assertEqual(state, State(Book(deeds)))

    def test_branches(self):
        for seed in range(10):
            deeds = random_deeds(seed, 16)
            book = Book(deeds)
            for branch in all_branches(book)[:60]:
                part = [one for one in deeds if one[0][0] <= branch[one[0][1]]]
                self.tells([ROOT, *Model(part).begin(ROOT)], at_branch(book, branch).line())
