"""Point [18] and section becoming.py."""

import random

from sharedscopes.becoming import bodies_for, does_become, least_number, least_of_all, told_pairs
from sharedscopes.books import Book
from sharedscopes.deeds import is_body
from sharedscopes.errors import BadText, NoBook, NoHand, NoPairs, NotVisible, NoTarget, TooMany
from sharedscopes.reading import made_of, read_shape
from sharedscopes.states import State
from sharedscopes.writing import shape_of, text_of
from tests import becomings
from tests.becomings import Goal, World, all_pairs, world_of
from tests.model import Model
from tests.programs import random_book, random_text
from tests.samples import ROOT, STRANGE, Case, Likeness, deed, row_of_blocks
from tests.test_grammar import WRONG
from tests.views import View

TWO = made_of("1 2")
ONE, OTHER = (1, 0), (2, 0)


def view_of(book):
    return View(Model(book.deeds()))


def plain(text):
    """The text with names without numbers."""
    for old, new in (("x1", "p"), ("x2", "q"), ("y99", "r"), ("x3", "s")):
        text = text.replace(old, new)
    return text


class PairsTest(Case):
    def test_the_example(self):
        pairs = ((ONE, (0,)), (OTHER, (1,)))
        self.tells(pairs, told_pairs(TWO, "9 1 2"))
        self.tells(3, least_number(TWO, "9 1 2", pairs))
        self.tells((2, ((ONE, (0,)), (OTHER, (2,)))), least_of_all(TWO, "9 1 2"))

    def test_nothing(self):
        self.tells((), told_pairs(Book(), ""))
        self.tells((), told_pairs(Book(), "1 (2)"))
        self.tells((), told_pairs(book=made_of("1 (2)"), text=""))

    def test_longest_common_rows_of_kinds(self):
        book = made_of("1 () 2 (+)")
        self.tells(((ONE, (0,)), ((3, 0), (1,)), ((4, 0), (2,))), told_pairs(book, "5 5 (+) ()"))
        self.tells((((2, 0), (0,)), ((3, 0), (1,))), told_pairs(book, "() 4 (*)"))

    def test_the_least_places_of_things_and_then_of_items(self):
        self.tells(((ONE, (0,)),), told_pairs(made_of("1 2 3"), "7"))
        self.tells(((ONE, (0,)),), told_pairs(made_of("1"), "7 8 9"))
        # Of two rows of two the one with the lesser things, though its items are greater.
        self.tells(((ONE, (1,)), (OTHER, (2,))), told_pairs(made_of("1 () 2"), "() 5 ()"))
        self.tells(((ONE, (0,)), (OTHER, (2,))), told_pairs(made_of("1 (+) ()"), "5 () (+)"))

    def test_the_order_of_the_state(self):
        book = made_of("1 2").followed(0, [("move", ONE, ROOT, 1)])
        self.tells(((OTHER, (0,)),), told_pairs(book, "7"))
        self.tells(((ONE, (1,)), (OTHER, (0,))), told_pairs(book, "7 8"))

    def test_from_above_down(self):
        book = made_of("(1 2) (3 (4))")
        self.tells((((1, 0), (0,)), ((2, 0), (0, 0)), ((4, 0), (1,)), ((5, 0), (1, 0)), ((6, 0), (1, 1)), ((7, 0), (1, 1, 0))),
                   told_pairs(book, "(9) (9 (9))"))
        # What is under things that are not paired is not, either.
        self.tells((((1, 0), (0,)), ((2, 0), (0, 0))), told_pairs(book, "(5)"))

    def test_things_that_are_not_in(self):
        book = made_of("(1) 2").followed(0, [("drop", ONE)])
        self.tells((((3, 0), (1,)),), told_pairs(book, "() 5"))


class NumberTest(Case):
    def number(self, before, text, *pairs):
        book = made_of(before) if isinstance(before, str) else before
        number = least_number(book, text, pairs)
        bodies = bodies_for(book, 0, text, pairs)
        self.assertEqual(number, len(bodies))
        self.assertIs(True, does_become(book, 0, text, pairs, bodies))
        return number

    def test_items_without_a_pair(self):
        self.tells(0, self.number("", ""))
        self.tells(2, self.number("", "1 2"))
        self.tells(4, self.number("", "(x = (+ 1)) x"))
        self.tells(4, self.number("1 2", "1 2"))

    def test_things_that_are_not_kept(self):
        self.tells(2, self.number("1 2", ""))
        # What is below a dropped thing goes with it.
        self.tells(1, self.number("(1 2 (3))", ""))
        self.tells(1, self.number("(1 2)", "(2)", (ONE, (0,)), ((3, 0), (0, 0))))
        # A kept thing comes out of one that is not kept.
        self.tells(2, self.number("(1 2)", "2", ((3, 0), (0,))))
        self.tells(2, self.number("((1))", "1", ((3, 0), (0,))))
        self.tells(3, self.number("((1))", "(1)", ((3, 0), (0, 0))))

    def test_contents(self):
        self.tells(1, self.number("1", "2", (ONE, (0,))))
        self.tells(0, self.number("1", "1", (ONE, (0,))))
        self.tells(1, self.number("(x = 1)", "(y = 1)", (ONE, (0,)), (OTHER, (0, 0))))
        pairs = [(ONE, (0,)), (OTHER, (1,)), ((3, 0), (2,))]
        self.tells(0, self.number("(x =) (y =) x", "(x =) (y =) x", *pairs))
        self.tells(1, self.number("(x =) (y =) x", "(x =) (y =) y", *pairs))
        self.tells(2, self.number("(x =) (y =) x", "(y =) (x =) y", *pairs))
        # The use keeps its binder though the names are others.
        self.tells(3, self.number("(x =) (y =) x", "(y =) (x =) x", *pairs))
        # A use whose let has no pair always has to be pointed.
        self.tells(3, self.number("(x =) (y =) x", "(x =) (y =) x", *pairs[1:]))
        self.tells(3, self.number("(x =) ?", "(x =) x", (OTHER, (1,))))
        self.tells(1, self.number("(x =) ?", "(x =) x", (ONE, (0,)), (OTHER, (1,))))

    def test_lost_uses_that_point_to_the_right_let(self):
        # The use is out of the scope of its let at first; the let is moved ahead of it.
        book = made_of("? (x =)").followed(0, [("point", ONE, OTHER)])
        self.tells(1, self.number(book, "(x =) x", (ONE, (1,)), (OTHER, (0,))))

    def test_other_holders(self):
        self.tells(1, self.number("1 (2)", "(2 1)", (ONE, (0, 1)), (OTHER, (0,)), ((3, 0), (0, 0))))
        self.tells(2, self.number("(())", "(())", (ONE, (0, 0)), (OTHER, (0,))))

    def test_moves_that_would_be_rings_in_another_order(self):
        # Each holder goes under what is below it.
        for paths, number in ([(0, 0, 0), (0, 0), (0,), (0, 0, 0, 0)], 4), ([(0, 0), (0, 0, 0), (0,), (0, 0, 0, 0)], 3):
            pairs = zip([(1, 0), (2, 0), (3, 0), (4, 0)], paths)
            self.tells(number, self.number("(((1)))", "(((1)))", *pairs))

    def test_the_order_under_one_holder(self):
        self.tells(1, self.number("1 2", "2 1", (ONE, (1,)), (OTHER, (0,))))
        self.tells(2, self.number("1 2 3", "3 2 1", (ONE, (2,)), (OTHER, (1,)), ((3, 0), (0,))))
        self.tells(1, self.number("1 2 3", "2 3 1", (ONE, (2,)), (OTHER, (0,)), ((3, 0), (1,))))
        # Ahead of the key 0 there is no room.
        self.tells(2, self.number("1 2 3", "3 1 2", (ONE, (1,)), (OTHER, (2,)), ((3, 0), (0,))))

    def test_room_for_keys_between(self):
        pairs = [(ONE, (0,)), (OTHER, (2,))]
        # Keys 0 and 1 have room between them, keys 0 and 0 have none.
        self.tells(1, self.number("1 2", "1 9 2", *pairs))
        book = Book().followed(0, [("make", "number", ROOT, 0, 1), ("make", "number", ROOT, 0, 2)])
        self.tells(2, self.number(book, "1 9 2", *pairs))
        self.tells(2, self.number("1 2", "1 9 9 2", (ONE, (0,)), (OTHER, (3,))))
        # Without anything between them they can stay.
        self.tells(0, self.number(book, "1 2", (ONE, (0,)), (OTHER, (1,))))
        self.tells(1, self.number(book, "1 2 9", (ONE, (0,)), (OTHER, (1,))))

    def test_equal_keys_behind_another_item(self):
        book = Book().followed(0, [("make", "number", ROOT, 5, 1), ("make", "number", ROOT, 5, 2), ("make", "number", ROOT, 5, 3)])
        self.tells(1, self.number(book, "9 1 2 3", (ONE, (1,)), (OTHER, (2,)), ((3, 0), (3,))))
        self.tells(1, self.number(book, "1 3", (ONE, (0,)), ((3, 0), (1,))))
        self.tells(2, self.number(book, "1 9 2 3", (ONE, (0,)), (OTHER, (2,)), ((3, 0), (3,))))
        self.tells(1, self.number(book, "2 3", (OTHER, (0,)), ((3, 0), (1,))))

    def test_room_for_keys_ahead(self):
        self.tells(2, self.number("1", "9 1", (ONE, (1,))))
        book = Book().followed(0, [("make", "number", ROOT, 1, 1)])
        self.tells(1, self.number(book, "9 1", (ONE, (1,))))
        self.tells(2, self.number(book, "9 8 1", (ONE, (2,))))
        self.tells(2, self.number("1 2", "9 1 2", (ONE, (1,)), (OTHER, (2,))))

    def test_room_for_keys_behind(self):
        book = Book().followed(0, [("make", "number", ROOT, 999, 1)])
        self.tells(2, self.number(book, "1 8 9", (ONE, (0,))))

    def test_pairs_in_any_order(self):
        pairs = [(OTHER, (1,)), (ONE, (0,))]
        for given in (pairs, pairs[::-1], tuple(pairs)):
            self.tells(0, least_number(TWO, "1 2", given))
        self.tells(0, least_number(book=TWO, text="1 2", pairs=pairs))


    def test_names_that_are_words_of_the_program(self):
        for name in ("lost", "use", "let", "sum"):
            self.tells(3, self.number("", f"({name} = 1) {name}"))


class BodiesTest(Case):
    def test_bodies(self):
        self.tells([], bodies_for(Book(), 0, "", ()))
        self.tells([("make", "number", ROOT, 0, 5)], bodies_for(book=Book(), hand=3, text="5", pairs=[]))
        self.tells([], bodies_for(TWO, 2, "1 2", told_pairs(TWO, "1 2")))
        bodies = bodies_for(Book(), 2, "(x = 1) x", [])
        book = Book().followed(2, bodies)
        self.tells("(x = 1) x", text_of(State(book)))
        self.tells([(1, 2), (2, 2), (3, 2)], book.listed())

    def test_sixty_deeds(self):
        book = Book(row_of_blocks(58))
        text = " ".join(["()"] * 58)
        pairs = told_pairs(book, text)
        self.tells(2, len(bodies_for(book, 0, text + " () ()", pairs)))
        self.refused(TooMany, 60, bodies_for, book, 0, text + " () () ()", pairs)
        self.tells(3, least_number(book, text + " () () ()", pairs))
        long = " ".join(["1"] * 61)
        self.refused(TooMany, 60, bodies_for, Book(), 0, long, ())
        self.tells(61, least_number(Book(), long, ()))
        self.tells((), told_pairs(Book(), long))

    def test_the_time_999(self):
        book = Book([deed(997, 1, 0, "make", "block", ROOT, 0, None)])
        self.tells(1, len(bodies_for(book, 0, "() ()", (((997, 1), (0,)),))))
        self.tells(2, len(bodies_for(book, 1, "() () ()", (((997, 1), (0,)),))))
        self.refused(TooMany, 999, bodies_for, book, 1, "() () () ()", (((997, 1), (0,)),))
        self.tells(3, least_number(book, "() () () ()", (((997, 1), (0,)),)))
        last = Book([deed(999, 1, 0, "make", "block", ROOT, 0, None)])
        self.tells([], bodies_for(last, 1, "()", (((999, 1), (0,)),)))
        self.refused(TooMany, 999, bodies_for, last, 0, "() ()", (((999, 1), (0,)),))
        # Too many deeds are told ahead of too late ones.
        self.refused(TooMany, 60, bodies_for, last, 0, " ".join(["()"] * 61), (((999, 1), (0,)),))

    def test_great_texts(self):
        text = " ".join(["1"] * 9000)
        self.assertEqual(2, len(told_pairs(TWO, text)))
        # The second number has to be set.
        self.tells(8999, least_number(TWO, text, told_pairs(TWO, text)))


class DoesTest(Case):
    PAIRS = ((ONE, (0,)), (OTHER, (2,)))

    def does(self, *bodies, text="1 9 2", pairs=PAIRS, book=TWO):
        return does_become(book, 0, text, pairs, list(bodies))

    def test_bodies_of_others(self):
        self.assertIs(True, self.does(("make", "number", ROOT, 0, 9)))
        self.assertIs(True, does_become(book=TWO, hand=3, text="1 9 2", pairs=self.PAIRS, value=(("make", "number", ROOT, 0, 9),)))
        # More than are needed.
        self.assertIs(True, self.does(("make", "number", ROOT, 7, 3), ("set", (3, 0), 9), ("move", (3, 0), ROOT, 0)))
        self.assertIs(True, self.does(("set", ONE, 5), ("set", ONE, 1), ("make", "number", ROOT, 0, 9)))
        self.assertIs(True, self.does(("drop", ONE), ("move", ONE, ROOT, 0), ("make", "number", ROOT, 0, 9)))
        # A thing that is put away for good is not in.
        self.assertIs(True, self.does(("make", "number", ROOT, 0, 8), ("drop", (3, 0)), ("make", "number", ROOT, 0, 9)))
        self.assertIs(True, self.does(text="1 2", pairs=((ONE, (0,)), (OTHER, (1,)))))
        self.assertIs(True, does_become(Book(), 0, "", (), []))
        self.assertIs(True, does_become(Book(), 0, "", (), ()))

    def test_bodies_that_make_something_else(self):
        for bodies in ([], [("make", "number", ROOT, 1, 9)], [("make", "number", ROOT, 0, 8)], [("make", "block", ROOT, 0, None)],
                       [("make", "number", ROOT, 0, 9), ("set", ONE, 2)], [("make", "number", ROOT, 0, 9)] * 2,
                       [("make", "number", ROOT, 0, 9), ("drop", ONE)], [("make", "use", ROOT, 0, None)]):
            self.assertIs(False, self.does(*bodies), bodies)

    def test_kept_things_have_to_stand_at_their_items(self):
        away = [("drop", ONE), ("make", "number", ROOT, 0, 1), ("make", "number", ROOT, 0, 9)]
        self.assertIs(False, self.does(*away))
        self.assertIs(True, self.does(*away, pairs=self.PAIRS[1:]))
        self.assertIs(False, self.does(("set", ONE, 2), ("set", OTHER, 1), text="2 1", pairs=((ONE, (1,)), (OTHER, (0,)))))
        self.assertIs(True, self.does(("move", ONE, ROOT, 1), text="2 1", pairs=((ONE, (1,)), (OTHER, (0,)))))

    def test_all_others_have_to_be_new(self):
        self.assertIs(False, self.does(("make", "number", ROOT, 0, 9), pairs=self.PAIRS[:1]))
        self.assertIs(False, self.does(text="1 2", pairs=()))
        # An old thing that was nowhere is not new, either.
        book = made_of("1 2 9").followed(0, [("drop", (3, 0))])
        self.assertIs(False, self.does(("move", (3, 0), ROOT, 0), book=book))
        self.assertIs(True, self.does(("make", "number", ROOT, 0, 9), book=book))

    def test_wishes_and_binders(self):
        book = made_of("(x =) (y =) x")
        pairs = ((ONE, (0,)), (OTHER, (1,)), ((3, 0), (2,)))
        self.assertIs(True, self.does(text="(x =) (y =) x", pairs=pairs, book=book))
        self.assertIs(False, self.does(text="(z =) (y =) z", pairs=pairs, book=book))
        self.assertIs(True, self.does(("wish", ONE, "z"), text="(z =) (y =) z", pairs=pairs, book=book))
        self.assertIs(False, self.does(text="(x =) (y =) y", pairs=pairs, book=book))
        self.assertIs(True, self.does(("point", (3, 0), OTHER), text="(x =) (y =) y", pairs=pairs, book=book))
        # One shape, but the wishes of other names.
        self.assertIs(False, self.does(("wish", ONE, "y"), ("wish", OTHER, "x"), text="(x =) (y =) x", pairs=pairs, book=book))

    def test_undo_and_redo(self):
        book = made_of("1").followed(0, [("set", ONE, 2)])
        self.assertIs(False, self.does(("undo", (2, 0)), text="1", pairs=((ONE, (0,)),), book=book))
        self.assertIs(True, self.does(("set", ONE, 1), text="1", pairs=((ONE, (0,)),), book=book))
        self.assertIs(False, self.does(("set", ONE, 1), ("redo", (2, 0)), text="1", pairs=((ONE, (0,)),), book=book))

    def test_what_can_not_follow(self):
        good = ("make", "number", ROOT, 0, 9)
        for value in ([good, ("drop", (9, 0))], [good, ("drop", (4, 0))], [good, None], [good, 5], [good, list(good)], [good, ("drop",)],
                      [("set", (3, 0), 9), good], [good, Likeness()], (good, ()), [good, ("make", "number", ROOT, 1000, 9)],
                      [("make", "number", ROOT, False, 9)], [("make", "number", (0, False), 0, 9)]):
            self.assertIs(False, does_become(TWO, 0, "1 9 2", self.PAIRS, value), value)
        for value in (*STRANGE, {0: good}, iter([good]), {good}, good):
            self.assertIs(False, does_become(TWO, 0, "1 9 2", self.PAIRS, value), value)
        self.assertIs(False, self.does(*[("set", ONE, 1)] * 58, good))
        self.assertIs(True, self.does(*[("set", ONE, 1)] * 57, good))
        late = Book([deed(999, 1, 0, "make", "number", ROOT, 0, 1)])
        self.assertIs(True, does_become(late, 0, "1", (((999, 1), (0,)),), []))
        self.assertIs(False, does_become(late, 0, "1", (((999, 1), (0,)),), [("set", (999, 1), 1)]))


class AllTest(Case):
    def test_least_of_all(self):
        self.tells((0, ()), least_of_all(Book(), ""))
        self.tells((1, ()), least_of_all(Book(), "5"))
        self.tells((1, ()), least_of_all(book=made_of("5"), text=""))
        self.tells((0, ((ONE, (0,)),)), least_of_all(made_of("5"), "5"))
        # To set it, or to drop it and make another one.
        self.tells((1, ((ONE, (0,)),)), least_of_all(made_of("5"), "6"))

    def test_the_fewest_pairs_and_then_the_least(self):
        self.tells((1, ((ONE, (0,)), (OTHER, (1,)))), least_of_all(made_of("1 2"), "1 3"))
        self.tells((1, ((ONE, (0,)), (OTHER, (2,)))), least_of_all(made_of("1 2"), "1 3 2"))
        book = Book().followed(0, [("make", "number", ROOT, 0, 1), ("make", "number", ROOT, 0, 1)])
        self.tells((1, ((ONE, (0,)),)), least_of_all(book, "1"))

    def test_five_and_six(self):
        five, six = " ".join(["1"] * 5), " ".join(["1"] * 6)
        self.assertEqual(0, least_of_all(made_of(five), five)[0])
        self.refused(TooMany, 5, least_of_all, made_of(six), five)
        self.refused(TooMany, 5, least_of_all, made_of(five), six)
        self.refused(TooMany, 5, least_of_all, made_of("((((()) 1)))"), "1")
        self.refused(TooMany, 5, least_of_all, Book(), "((((()) 1)))")
        # The root does not count, nor what is not in.
        book = made_of("(1 2 3) 4 5").followed(0, [("drop", ONE)])
        self.assertEqual(0, least_of_all(book, "4 5")[0])
        self.assertEqual(0, least_of_all(made_of("((((5))))"), "((((5))))")[0])


class WrongTest(Case):
    def test_no_book(self):
        for value in (*STRANGE, State(Book()), Book):
            self.refused(NoBook, value, told_pairs, value, None)
            self.refused(NoBook, value, least_number, value, None, None)
            self.refused(NoBook, value, bodies_for, value, None, None, None)
            self.refused(NoBook, value, does_become, value, None, None, None, None)
            self.refused(NoBook, value, least_of_all, value, None)

    def test_no_hand(self):
        for value in STRANGE:
            if value not in (0, 1) or isinstance(value, (bool, float, Likeness)):
                self.refused(NoHand, value, bodies_for, TWO, value, None, None)
                self.refused(NoHand, value, does_become, TWO, value, None, None, None)
        self.refused(NoHand, 4, bodies_for, TWO, 4, "x", None)

    def calls(self):
        yield lambda text: told_pairs(TWO, text)
        yield lambda text: least_number(TWO, text, None)
        yield lambda text: bodies_for(TWO, 0, text, None)
        yield lambda text: does_become(TWO, 0, text, None, None)
        yield lambda text: least_of_all(made_of(" ".join(["1"] * 9)), text)

    def test_wrong_texts(self):
        for call in self.calls():
            for value in STRANGE:
                if not isinstance(value, str):
                    self.refused(BadText, 0, call, value)
            for text, at in WRONG.items():
                self.refused(BadText, at, call, text)
            for text, at in {"x": 0, "(x = x)": 5, "1 (+ 2 ab)": 7, "? x": 2, "(x1 =) x": 7}.items():
                self.refused(NotVisible, at, call, text)
            for text in ("?", "1 (2 ?)", "(x1 =)", "(x = (y99 =))", "(x1 =) x1", "(+ ?) (x =) x"):
                self.refused(NoTarget, text, call, text)

    def test_wrong_pairs(self):
        book, text = made_of("1 (2 3) (+)"), "4 (5 ()) (+)"
        good = [((1, 0), (0,)), ((2, 0), (1,)), ((3, 0), (1, 0))]
        calls = [lambda pairs: least_number(book, text, pairs), lambda pairs: bodies_for(book, 0, text, pairs),
                 lambda pairs: does_become(book, 0, text, pairs, None)]
        bent = [((1, 0), (2,)), ((1, 0), (1,)), ((2, 0), (0,)), ((5, 0), (1,)), ((2, 0), (2,)), (ROOT, ()), (ROOT, (1,)), ((2, 0), ()),
                ((9, 0), (0,)), ((1, 0), (9,)), ((1, 0), (0, 0)), ((1, 0), [0]), [(1, 0), (0,)], ((1, 0), (0,), None), ((1, 0),),
                ((1, False), (0,)), ((1, 0), (False,)), ((1, 0), (0.0,)), ((1, 0), (-3,)), ((1, 0), 0), ((1, 0), None), (None, (0,)),
                ((3, 0), (1, False)), ((3, 0), (True, 0)), ((3, 0), (1, 0.0)), ((3, 0), (1, None)), ((3, 0), (1, [0])),
                ((3, 0), (1, Likeness())), ((1, 0), "0"), ((1, 0), (None,)), ((1, 0), ([0],)), (Likeness(), (0,)), ((1, 0), Likeness()), ((1, 0), (Likeness(),))]
        for call in calls:
            for value in STRANGE:
                if not isinstance(value, (list, tuple)):
                    self.refused(NoPairs, None, call, value)
            self.refused(NoPairs, None, call, {(1, 0): (0,)})
            for pair in (*bent, *STRANGE):
                self.refused(NoPairs, 0, call, [pair])
                self.refused(NoPairs, 2, call, (good[1], good[2], pair))
            self.refused(NoPairs, 1, call, [good[0], good[0]])
            # A thing twice, and a path twice.
            self.refused(NoPairs, 2, call, [((3, 0), (0,)), good[1], ((3, 0), (1, 0))])
            self.refused(NoPairs, 2, call, [((3, 0), (0,)), good[1], ((1, 0), (0,))])
            call(good)
        out = book.followed(0, [("drop", (2, 0))])
        self.refused(NoPairs, 0, least_number, out, text, [((2, 0), (1,))])
        self.refused(NoPairs, 0, least_number, out, text, [((3, 0), (0,))])

    def test_what_is_handed_in_stays(self):
        pairs = [((2, 0), (1,)), ((1, 0), (0,))]
        value = [("set", (1, 0), 4)]
        bodies_for(TWO, 0, "9 1 2", pairs)
        does_become(TWO, 0, "9 1 2", pairs, value)
        self.tells(([((2, 0), (1,)), ((1, 0), (0,))], [("set", (1, 0), 4)]), (pairs, value))


class RandomTest(Case):
    def cases(self, many, room, other, turns=3):
        """Books, and targets that are drawn by themselves or made out of the book's text."""
        for seed in range(many):
            rng = random.Random(f"becoming {seed}")
            book = random_book(f"becoming {seed}", room, turns)
            if seed % 3 == 2:
                # With other keys, several of them alike.
                book = book.followed(0, [("move", stamp, book[stamp][2][2], rng.choice([0, 1, 1, 2, 5]))
                                         for stamp in book if book[stamp][2][0] == "make" and rng.random() < 0.7])
            text = plain(random_text(f"target {seed}", other, lost=0))
            if seed % 2:
                text = self.bent(rng, plain(random_text(f"broken becoming {seed}", room)), text)
            yield rng, book, text

    def bent(self, rng, text, otherwise):
        """Another text made of this one by putting away, adding and changing signs, if there is one."""
        for _ in range(40):
            words = text.split(" ")
            at = rng.randrange(len(words))
            words[at:at + rng.randint(0, 1)] = rng.choice([[], ["7"], ["()"], ["(+)"], ["(x =)"], [rng.choice(words)]])
            tried = " ".join(words)
            if "?" not in tried:
                try:
                    read_shape(tried)
                except (BadText, NotVisible):
                    continue
                return tried
        return otherwise

    def drawn_pairs(self, rng, view, goal):
        yield becomings.told_pairs(view, goal)
        for _ in range(3):
            things, paths = view.line[1:], list(goal.paths)
            rng.shuffle(things)
            rng.shuffle(paths)
            pairs = []
            for thing in things:
                fits = [path for path in paths if goal.kinds[path] == view.kinds[thing]]
                if fits and rng.random() < 0.8:
                    pairs.append((thing, fits[0]))
                    paths.remove(fits[0])
            yield tuple(pairs)

    def test_told_pairs_by_trying_all(self):
        for _, book, text in self.cases(120, 12, 12):
            view, goal = view_of(book), Goal(text)
            if max(len(parts) for parts in [*view.plant.parts.values(), *goal.parts.values()]) < 10:
                self.tells(becomings.told_pairs(view, goal), told_pairs(book, text))

    def test_the_least_number_as_the_document_says(self):
        for rng, book, text in self.cases(150, 16, 14):
            view, goal = view_of(book), Goal(text)
            if max(len(parts) for parts in view.plant.parts.values()) < 10:
                for pairs in self.drawn_pairs(rng, view, goal):
                    self.tells(becomings.least_number(view, goal, pairs), least_number(book, text, pairs))

    def test_the_told_bodies_make_the_target(self):
        for rng, book, text in self.cases(250, 18, 16):
            view, goal = view_of(book), Goal(text)
            for pairs in self.drawn_pairs(rng, view, goal):
                hand = rng.randrange(4)
                number = least_number(book, text, pairs)
                if len(book) + number > 60:
                    self.refused(TooMany, 60, bodies_for, book, hand, text, pairs)
                    continue
                bodies = bodies_for(book, hand, text, pairs)
                self.assertEqual(number, len(bodies))
                self.assertTrue(all(is_body(body) and body[0] not in ("undo", "redo") for body in bodies))
                after = book.followed(hand, bodies)
                behind = view_of(after)
                self.tells(read_shape(text), behind.shape())
                self.assertTrue(world_of(behind).is_become(goal, pairs, book.listed()))
                self.assertIs(True, does_become(book, hand, text, pairs, bodies))
                outcomes = Model(after.deeds()).outcomes
                self.assertEqual({"done"} if bodies else set(), {outcomes[stamp] for stamp in after if stamp not in book})

    def test_bent_bodies(self):
        seen = [0, 0]
        for rng, book, text in self.cases(120, 10, 8):
            view, goal = view_of(book), Goal(text)
            for pairs in self.drawn_pairs(rng, view, goal):
                bodies = bodies_for(book, 0, text, pairs)
                rng.shuffle(bodies)
                if bodies and rng.random() < 0.7:
                    at = rng.randrange(len(bodies))
                    bodies[at:at + 1] = rng.choice([[], bodies[at:at + 1] * 2, bodies[:1]])
                try:
                    behind = view_of(book.followed(0, bodies))
                except Exception:
                    expected = False
                else:
                    expected = world_of(behind).is_become(goal, pairs, book.listed())
                seen[expected] += 1
                self.assertIs(expected, does_become(book, 0, text, pairs, bodies))
        self.assertTrue(min(seen) > 20, seen)

    def test_no_fewer_bodies_do_by_trying_all(self):
        tried = 0
        for rng, book, text in self.cases(500, 4, 4, turns=2):
            view, goal = view_of(book), Goal(text)
            most_key = 1 + max([place[1] for place in view.places.values() if place], default=0)
            for pairs in self.drawn_pairs(rng, view, goal):
                number = least_number(book, text, pairs)
                if number > (4 if len(view.kinds) < 3 else 3):
                    continue
                world, time = world_of(view), max([stamp[0] for stamp in book], default=0) + 1
                for many in range(number):
                    tried += many > 0
                    self.assertFalse(world.can_become(goal, pairs, book.listed(), many, time, most_key), (book.deeds(), text, pairs))
                self.assertTrue(does_become(book, 0, text, pairs, bodies_for(book, 0, text, pairs)))
        self.assertGreater(tried, 60)

    def test_least_of_all_by_trying_all(self):
        tried = 0
        for rng, book, text in self.cases(200, 5, 4, turns=2):
            view, goal = view_of(book), Goal(text)
            if len(view.line) > 6 or len(goal.paths) > 5:
                self.refused(TooMany, 5, least_of_all, book, text)
                continue
            tried += 1
            number, _, pairs = min((becomings.least_number(view, goal, pairs), len(pairs), pairs)
                                   for pairs in all_pairs(view, goal))
            self.tells((number, pairs), least_of_all(book, text))
        self.assertGreater(tried, 80)

    def test_the_search_finds_what_is_told(self):
        """The plain search itself is right where the document's examples are."""
        view, goal = view_of(TWO), Goal("1 9 2")
        pairs = ((ONE, (0,)), (OTHER, (2,)))
        world = world_of(view)
        self.assertIsInstance(world, World)
        self.assertFalse(world.can_become(goal, pairs, TWO.listed(), 0, 3, 2))
        self.assertTrue(world.can_become(goal, pairs, TWO.listed(), 1, 3, 2))
