"""Point [7] and section late.py."""

import random

from sharedscopes.books import Book
from sharedscopes.errors import NoBook, NoChange, NoStamp
from sharedscopes.late import changed_rows, front_of, is_change, is_safe, settled_rows, ways_out
from sharedscopes.plays import play_of, row_of
from tests.model import Model
from tests.samples import NOTHING, ROOT, STRANGE, Case, deed, random_body, random_deeds, row_of_blocks

BLOCK = ("make", "block", ROOT, 0, None)


def under(thing):
    return ("make", "block", thing, 0, None)


def followed(*bodies):
    return Book().followed(0, bodies)


# Two blocks; hand 1 moves the second one under the first one.
BOOK = followed(BLOCK, BLOCK).followed(1, [("move", (2, 0), (1, 0), 0), ("set", (1, 0), 5)])

# Comes ahead of the move of hand 1, and makes a ring of it.
LATE = deed(3, 0, 2, "move", (1, 0), (2, 0), 0)


def model_saw(one, other):
    """Whether the first whole deed has seen the second one."""
    return other[0][0] <= one[1][other[0][1]]


class ChangeTest(Case):
    def test_deeds_that_can_come(self):
        self.assertIs(True, is_change(BOOK, ("in", LATE)))
        self.assertIs(True, is_change(book=BOOK, value=("in", deed(900, 3, 0, *BLOCK))))
        self.assertIs(True, is_change(Book(), ("in", deed(1, 0, 0, *BLOCK))))
        self.assertIs(True, is_change(BOOK, ("in", deed(5, 1, (2, 4, 0, 0), "undo", (3, 1)))))

    def test_deeds_that_cannot_come(self):
        for late in (deed(2, 0, 1, *BLOCK), BOOK[(2, 0)], BOOK[(3, 1)], deed(3, 0, 1, *BLOCK), deed(5, 2, 4, *BLOCK),
                     deed(1, 1, 0, *BLOCK), deed(3, 2, 0, "drop", (1, 0)), deed(5, 0, 2, "drop", (3, 1)), list(LATE),
                     None):
            self.assertIs(False, is_change(BOOK, ("in", late)), late)
        for value in STRANGE:
            self.assertIs(False, is_change(BOOK, ("in", value)))

    def test_no_book_of_sixty_one(self):
        book = Book(row_of_blocks(60))
        self.assertIs(False, is_change(book, ("in", deed(1, 1, 0, *BLOCK))))
        self.assertIs(True, is_change(Book(row_of_blocks(59)), ("in", deed(1, 1, 0, *BLOCK))))

    def test_deeds_that_can_be_left_out(self):
        for stamp in BOOK:
            self.assertIs(True, is_change(BOOK, ("out", stamp)))
        self.assertIs(True, is_change(followed(BLOCK, ("undo", (1, 0))), ("out", (2, 0))))
        for value in (*STRANGE, ROOT, (4, 0), (1, 1), LATE, BOOK[(1, 0)], (True, 0), [1, 0]):
            self.assertIs(False, is_change(BOOK, ("out", value)), value)

    def test_other_values(self):
        for value in (*STRANGE, ["in", LATE], ("in",), ("in", LATE, None), ("out",), ("out", (1, 0), (2, 0)),
                      ("In", LATE),
                      ("without", (1, 0)), (b"out", (1, 0)), (None, (1, 0)), (1, (1, 0)), ((1, 0), "out"), LATE,
                      (("out",), (1, 0)), (["in"], LATE), ("out", None), ("in", (1, 0)), ("out", LATE)):
            self.assertIs(False, is_change(BOOK, value), value)

    def test_no_book(self):
        for value in (*STRANGE, []):
            for call in (is_change, changed_rows, ways_out, is_safe):
                self.refused(NoBook, value, call, value, None)
            for call in (front_of, settled_rows):
                self.refused(NoBook, value, call, value)


class ChangedTest(Case):
    def changed(self, expected, book, change):
        told = changed_rows(book, change)
        self.tells(expected, told)
        self.assertIs(tuple, told.__class__)

    def test_a_late_move(self):
        self.changed(([(3, 1), (4, 1)], [(3, 1)], [((3, 1), "done", "ring")]), BOOK, ("in", LATE))
        self.changed(([(3, 1), (4, 1)], [(3, 1)], [((3, 1), "ring", "done")]), BOOK.with_deeds([LATE]), ("out", (3, 0)))
        self.tells(([(3, 1), (4, 1)], [(3, 1)], [((3, 1), "done", "ring")]),
                   changed_rows(book=BOOK, change=("in", LATE)))

    def test_rows_that_are_unlike_but_not_turned(self):
        book = followed(BLOCK, BLOCK, BLOCK, ("move", (1, 0), (2, 0), 0)).followed(1, [("move", (3, 0), (1, 0), 0)])
        self.changed(([(5, 1)], [(5, 1)], []), book, ("out", (4, 0)))
        self.changed(([], [], []), book, ("out", (5, 1)))

    def test_all_above_a_make_that_is_left_out(self):
        self.changed(([(2, 0), (3, 1), (4, 1)], [(3, 1)], [((3, 1), "done", "gone")]), BOOK, ("out", (1, 0)))
        book = followed(BLOCK, under((1, 0)), under((2, 0)), ("drop", ROOT))
        self.changed(([(2, 0), (3, 0), (4, 0)], [(2, 0), (3, 0)], [((2, 0), "done", "gone"), ((3, 0), "done", "gone")]),
                     book, ("out", (1, 0)))

    def test_marks(self):
        book = followed(BLOCK, under((1, 0)))
        undo = ("in", deed(3, 0, 2, "undo", (1, 0)))
        self.changed(([(2, 0)], [(2, 0)], [((2, 0), "done", "gone")]), book, undo)
        self.changed(([(2, 0)], [(2, 0)], [((2, 0), "gone", "done")]), book.with_deeds([undo[1]]), ("out", (3, 0)))
        self.changed(([], [], []), book, ("in", deed(3, 0, 2, "redo", (1, 0))))
        self.changed(([], [], []), book.with_deeds([undo[1]]), ("out", (1, 0)))

    def test_what_changes_nothing(self):
        self.changed(([(4, 1)], [], []), BOOK, ("out", (3, 1)))
        self.changed(([], [], []), BOOK, ("in", deed(9, 3, 0, *BLOCK)))
        self.changed(([(2, 0), (3, 1), (4, 1)], [], []), BOOK, ("in", deed(1, 3, 0, *BLOCK)))
        self.changed(([], [], []), Book(), ("in", deed(9, 3, 0, *BLOCK)))

    def test_no_change(self):
        for value in (*STRANGE, LATE, ("in", BOOK[(1, 0)]), ("in", None), ("out", (4, 0)), ["out", (1, 0)]):
            self.refused(NoChange, value, changed_rows, BOOK, value)

    def expected(self, ahead, behind):
        """The triple, of the models ahead of and behind a change."""
        rows, later = {row[0]: row for row in ahead.rows}, {row[0]: row for row in behind.rows}
        both, single = sorted(set(rows) & set(later)), set(rows) ^ set(later)
        return ([stamp for stamp in both if single and stamp > min(single)],
                [stamp for stamp in both if rows[stamp] != later[stamp]],
                [(stamp, rows[stamp][1], later[stamp][1]) for stamp in both if rows[stamp][1] != later[stamp][1]])

    def test_random_books(self):
        for seed in range(25):
            deeds = random_deeds(seed, 30)
            book = Book(deeds)
            for stamp in book:
                expected = self.expected(Model(deeds), Model(deeds, [stamp]))
                self.tells(expected, changed_rows(book, ("out", stamp)))
                self.assertLessEqual(set(expected[1]), set(expected[0]))
            unseen = [one for one in deeds if not any(model_saw(other, one) for other in deeds)]
            for late in unseen:
                rest = [one for one in deeds if one != late]
                self.assertIs(True, is_change(Book(rest), ("in", late)))
                self.tells(self.expected(Model(rest), Model(deeds)), changed_rows(Book(rest), ("in", late)))


class RingTest(Case):
    def test_ways_out(self):
        book = BOOK.with_deeds([LATE])
        self.tells([(3, 0)], ways_out(book, (3, 1)))
        self.tells([(3, 0)], ways_out(book=book, stamp=(3, 1)))

    def test_makes_on_the_chain_are_no_way_out(self):
        self.tells([], ways_out(followed(BLOCK, under((1, 0)), ("move", (1, 0), (2, 0), 0)), (3, 0)))
        self.tells([], ways_out(followed(BLOCK, ("move", (1, 0), (1, 0), 0)), (2, 0)))

    def test_several_ways_out_ascending(self):
        book = followed(BLOCK, BLOCK, BLOCK, ("move", (3, 0), (1, 0), 0), ("move", (2, 0), (3, 0), 0),
                        ("move", (1, 0), (2, 0), 0))
        self.tells(((6, 0), "ring", (((2, 0), (5, 0)), ((3, 0), (4, 0)), ((1, 0), None))), row_of(book, (6, 0)))
        self.tells([(4, 0), (5, 0)], ways_out(book, (6, 0)))

    def test_a_deed_without_which_it_is_still_a_ring(self):
        book = followed(BLOCK, under((1, 0)), ("move", (2, 0), (1, 0), 5), ("move", (1, 0), (2, 0), 0))
        self.tells((((2, 0), (3, 0)), ((1, 0), None)), row_of(book, (4, 0))[2])
        self.tells([], ways_out(book, (4, 0)))

    def test_only_of_rings(self):
        book = BOOK.with_deeds([LATE])
        for value in (*STRANGE, ROOT, (4, 0), (1, 0), (3, 0), (4, 1)):
            self.refused(NoStamp, value, ways_out, book, value)
        book = followed(BLOCK, ("move", (1, 0), (1, 0), 0), ("undo", (2, 0)))
        for stamp in book:
            self.refused(NoStamp, stamp, ways_out, book, stamp)

    def test_random_books(self):
        for seed in range(40):
            deeds = random_deeds(seed, 40, meeting=0.6)
            model = Model(deeds)
            for stamp, outcome, chain in model.rows:
                if outcome == "ring":
                    placers = sorted(placer for _, placer in chain if placer is not None)
                    expected = [one for one in placers if Model(deeds, [one]).outcomes[stamp] == "done"]
                    self.tells(expected, ways_out(Book(deeds), stamp))


class SafeTest(Case):
    def test_safe_moves(self):
        self.assertIs(True, is_safe(BOOK, (3, 1)))
        self.assertIs(True, is_safe(book=BOOK, stamp=(3, 1)))
        self.assertIs(True, is_safe(followed(BLOCK, ("move", (1, 0), ROOT, 0)), (2, 0)))
        self.assertIs(True, is_safe(followed(BLOCK, under((1, 0)), ("move", (2, 0), (1, 0), 9)), (3, 0)))

    def test_moves_under_the_thing_itself(self):
        self.assertIs(False, is_safe(followed(BLOCK, ("move", (1, 0), (1, 0), 0)), (2, 0)))

    def test_rows_of_steps(self):
        self.assertIs(False, is_safe(BOOK.with_deeds([LATE]), (3, 1)))
        self.assertIs(False, is_safe(BOOK.with_deeds([LATE]), (3, 0)))
        self.assertIs(False, is_safe(followed(BLOCK, under((1, 0)), under((2, 0)), ("move", (1, 0), (3, 0), 0)),
                                     (4, 0)))
        # That it was moved away does not help.
        self.assertIs(False, is_safe(followed(BLOCK, under((1, 0)), ("move", (2, 0), ROOT, 0),
                                              ("move", (1, 0), (2, 0), 0)),
                                     (4, 0)))
        # Nor that it is moved back only later.
        self.assertIs(False, is_safe(followed(BLOCK, BLOCK, ("move", (1, 0), (2, 0), 0), ("move", (1, 0), ROOT, 0),
                                              ("move", (2, 0), (1, 0), 0)), (3, 0)))

    def test_deeds_that_are_not_alive_count(self):
        book = followed(BLOCK, BLOCK, ("move", (2, 0), (1, 0), 0), ("undo", (3, 0)), ("move", (1, 0), (2, 0), 0))
        self.assertIs(False, is_safe(book, (5, 0)))
        self.assertIs(False, is_safe(book, (3, 0)))
        book = followed(BLOCK, under((1, 0)), ("undo", (2, 0)), ("move", (1, 0), (2, 0), 0), ("undo", (4, 0)))
        self.assertIs(False, is_safe(book, (4, 0)))

    def test_moves_of_the_root(self):
        self.assertIs(False, is_safe(followed(BLOCK, ("move", ROOT, (1, 0), 0)), (2, 0)))
        self.assertIs(False, is_safe(followed(("move", ROOT, ROOT, 0)), (1, 0)))

    def test_only_of_moves(self):
        book = followed(BLOCK, ("drop", (1, 0)), ("undo", (1, 0)), ("wish", (1, 0), "x"))
        for value in (*STRANGE, ROOT, *book, (1, 1)):
            self.refused(NoStamp, value, is_safe, book, value)

    def test_a_safe_move_is_never_a_ring(self):
        for seed in range(40):
            rng = random.Random(seed)
            deeds = random_deeds(seed, 30, meeting=0.5)
            book = Book(deeds)
            safe = [stamp for stamp in book if book[stamp][2][0] == "move" and is_safe(book, stamp)]
            for _ in range(10):
                left = rng.sample(book.listed(), rng.randrange(12))
                rings = [row[0] for row in play_of(book, left) if row[1] == "ring"]
                self.assertFalse(set(rings) & set(safe))

    def test_steps_of_random_books(self):
        for seed in range(20):
            deeds = random_deeds(seed, 24, meeting=0.5)
            ordered = sorted(deeds)
            book = Book(deeds)
            for stamp in book:
                if book[stamp][2][0] == "move":
                    steps = {}
                    for one, _, body in ordered:
                        if body[0] in ("make", "move"):
                            steps.setdefault(one if body[0] == "make" else body[1], set()).add(body[2])
                    _, thing, goal, _ = book[stamp][2]
                    reached = {goal}
                    for _ in range(30):
                        reached |= {end for start in reached for end in steps.get(start, ())}
                    self.assertIs(thing not in reached, is_safe(book, stamp))


class FrontTest(Case):
    def test_front(self):
        self.tells((0, 0), front_of(Book()))
        self.tells((0, 2), front_of(book=BOOK))
        self.tells((0, 1), front_of(followed(BLOCK)))
        book = BOOK.followed(2, [BLOCK]).followed(3, [BLOCK])
        self.tells((2, 0), front_of(book))
        self.tells((4, 1), front_of(book.followed(0, [BLOCK])))
        made = [deed(5, hand, 0, *BLOCK) for hand in range(4)]
        self.tells((5, 0), front_of(Book(made)))
        self.tells((5, 1), front_of(Book([deed(6, 0, 0, *BLOCK), *made[1:]])))

    def test_settled(self):
        self.tells([], settled_rows(BOOK))
        self.tells([], settled_rows(Book()))
        book = BOOK.followed(2, [BLOCK]).followed(3, [BLOCK])
        self.tells([((1, 0), "done", ()), ((2, 0), "done", ())], settled_rows(book))
        self.tells(play_of(book)[:4], settled_rows(book=book.followed(0, [BLOCK])))
        self.tells([(1, 0), (3, 1), (4, 1)], [row[0] for row in settled_rows(book.followed(0, [("undo", (2, 0))]))])

    def test_what_comes_later_changes_settled_rows_by_marks_only(self):
        for seed in range(30):
            rng = random.Random(seed)
            deeds = random_deeds(seed, 30, meeting=0.5)
            book = Book(deeds)
            table = {one[0]: one for one in deeds}
            settled = settled_rows(book)
            for hand in range(4):
                time = book.last(hand) + 1
                seen = list(NOTHING) if time == 1 else list(book[(time - 1, hand)][1])
                seen[hand] = time - 1
                known = [stamp for stamp in book if stamp[0] <= seen[stamp[1]]]
                body = random_body(rng, known, table, hand)
                late = ((time, hand), tuple(seen), body)
                self.assertIs(True, is_change(book, ("in", late)))
                self.assertGreater(late[0], front_of(book))
                if body[0] not in ("undo", "redo"):
                    self.tells(settled, settled_rows(book.with_deeds([late]))[:len(settled)])
