"""Point [25] and section booktexts.py."""

import random

from sharedscopes.books import Book
from sharedscopes.booktexts import body_of, body_words, is_book_text, read_book, write_book
from sharedscopes.deeds import is_body
from sharedscopes.errors import BadRow, NoBody, NoBook, NotClosed, TooMany, Unseen
from sharedscopes.states import State
from tests.samples import ROOT, STRANGE, Case, Likeness, random_deeds, row_of_blocks

# Bodies of each kind, and their words.
BODIES = {
    "make block 0.0 0 -": ("make", "block", ROOT, 0, None),
    "make sum 999.3 999 -": ("make", "sum", (999, 3), 999, None),
    "make product 1.0 10 -": ("make", "product", (1, 0), 10, None),
    "make let 12.2 7 abcd": ("make", "let", (12, 2), 7, "abcd"),
    "make let 0.0 0 x": ("make", "let", ROOT, 0, "x"),
    "make use 0.0 0 -": ("make", "use", ROOT, 0, None),
    "make use 0.0 0 0.0": ("make", "use", ROOT, 0, ROOT),
    "make use 0.0 0 3.1": ("make", "use", ROOT, 0, (3, 1)),
    "make number 0.0 0 0": ("make", "number", ROOT, 0, 0),
    "make number 0.0 100 99": ("make", "number", ROOT, 100, 99),
    "move 1.0 0.0 5": ("move", (1, 0), ROOT, 5),
    "move 0.0 2.3 0": ("move", ROOT, (2, 3), 0),
    "drop 1.0": ("drop", (1, 0)),
    "drop 0.0": ("drop", ROOT),
    "wish 1.0 undo": ("wish", (1, 0), "undo"),
    "wish 0.0 y": ("wish", ROOT, "y"),
    "point 1.0 -": ("point", (1, 0), None),
    "point 1.0 0.0": ("point", (1, 0), ROOT),
    "point 0.0 2.1": ("point", ROOT, (2, 1)),
    "set 1.0 0": ("set", (1, 0), 0),
    "set 10.3 42": ("set", (10, 3), 42),
    "undo 1.0": ("undo", (1, 0)),
    "redo 999.3": ("redo", (999, 3)),
}

# What are the words of no body.
WRONG = (
    "", " ", "make", "drop", "drop ", " drop 1.0", "drop 1.0 ", "drop  1.0", "drop 1.0 1.0", "Drop 1.0", "drop 1", "drop 1.", "drop .0",
    "drop 1.0.0", "drop 1.4", "drop 0.1", "drop 0.3", "drop 1000.0", "drop 01.0", "drop 1.00", "drop 00.0", "drop -", "drop x", "drop 1,0",
    "drop (1, 0)", "drop +1.0", "drop 1.-0", "drop -1.0", "drop 1.0\n", "\ndrop 1.0", "drop\n1.0", "drop\t1.0", "drop 1_0.0",
    "undo 0.0", "redo 0.0", "undo -", "undo", "undo 1.0 2.0", "make block 0.0 0", "make block 0.0 0 - -", "make block 0.0 0 x",
    "make block 0.0 0 0", "make block 0.0 0 0.0", "make block - 0 -", "make block 0 0 -", "make block 0.0 1000 -", "make block 0.0 -1 -",
    "make block 0.0 00 -", "make block 0.0 01 -", "make block 0.0 - -", "make block 0.0 0.0 -", "make block 0.0 x -", "make ring 0.0 0 -",
    "make - 0.0 0 -", "make 0 0.0 0 -", "make let 0.0 0 -", "make let 0.0 0 abcde", "make let 0.0 0 X", "make let 0.0 0 x1", "make let 0.0 0 ",
    "make let 0.0 0 5", "make let 0.0 0 1.0", "make use 0.0 0 x", "make use 0.0 0 5", "make use 0.0 0 ", "make use 0.0 0 --", "make number 0.0 0 -",
    "make number 0.0 0 100", "make number 0.0 0 05", "make number 0.0 0 1.0", "make number 0.0 0 x", "make number 0.0 0 ", "make number 0.0 0 +5",
    "move 1.0 2.0", "move 1.0 2.0 x", "move 1.0 2.0 1000", "move 1.0 - 0", "move - 1.0 0", "move 1.0 2.0 -", "move 1.0 2.0 3 4", "wish 1.0",
    "wish 1.0 -", "wish 1.0 abcde", "wish 1.0 5", "wish x 1.0", "wish 1.0 a b", "point 1.0", "point 1.0 x", "point - 1.0", "point 1.0 5",
    "set 1.0", "set 1.0 100", "set 1.0 -", "set 1.0 x", "set 1.0 1.0", "set - 1", "set 1.0 9999", "jump 1.0", "- 1.0", "1.0 drop", "1.0",
    "set 1.0 \u0661", "set \u0661.0 1", "make number 0.0 0 \u00b2", "wish 1.0 \u00e4", "drop 1\u00a00", "0", "-", "1 2 3 4",
)

SMALL = Book([((1, 0), (0, 0, 0, 0), ("make", "let", ROOT, 1, "x")), ((2, 1), (1, 0, 0, 0), ("make", "number", (1, 0), 0, 5)),
              ((3, 0), (1, 2, 0, 0), ("make", "use", ROOT, 5, (1, 0))), ((4, 1), (3, 2, 0, 0), ("point", (3, 0), None))])

ROWS = ["1 0 0 0 0 0 make let 0.0 1 x", "2 1 1 0 0 0 make number 1.0 0 5", "3 0 1 2 0 0 make use 0.0 5 1.0", "4 1 3 2 0 0 point 3.0 -"]

TEXT = "\n".join(ROWS)


class BodyTest(Case):
    def test_words(self):
        for words, body in BODIES.items():
            self.assertTrue(is_body(body))
            self.tells(words, body_words(body))
            self.tells(body, body_of(words))
        self.tells("drop 1.0", body_words(body=("drop", (1, 0))))
        self.tells(("drop", (1, 0)), body_of(words="drop 1.0"))

    def test_wrong_words(self):
        for words in WRONG:
            self.refused(BadRow, None, body_of, words)
        for value in (*STRANGE, ["drop", "1.0"], ("drop", (1, 0)), b"drop 1.0"):
            self.refused(BadRow, None, body_of, value)

    def test_no_bodies(self):
        for value in (*STRANGE, ["drop", (1, 0)], ("drop",), ("drop", (1, 0), 1), ("drop", [1, 0]), ("drop", (1, False)), ("set", (1, 0), True),
                      ("undo", ROOT), ("wish", (1, 0), "abcde"), ("make", "let", ROOT, 0, None), ("drop", Likeness()), "drop 1.0"):
            self.refused(NoBody, value, body_words, value)

    def test_great_figures(self):
        for words in ("set 1.0 " + "9" * 200, "drop " + "1" * 200 + ".0", "drop 1." + "0" * 150):
            self.refused(BadRow, None, body_of, words)


class WriteTest(Case):
    def test_written_texts(self):
        self.tells(TEXT, write_book(SMALL))
        self.tells("", write_book(Book()))
        self.tells("1 0 0 0 0 0 make block 0.0 0 -", write_book(book=Book(row_of_blocks(1))))

    def test_no_book(self):
        for value in (*STRANGE, State(Book()), SMALL.deeds()):
            self.refused(NoBook, value, write_book, value)


class ReadTest(Case):
    def test_read_back(self):
        self.assertEqual(SMALL, read_book(TEXT))
        self.assertEqual(Book(), read_book(text=""))
        self.tells(SMALL.deeds(), read_book(TEXT).deeds())

    def test_rows_in_any_order(self):
        for seed in range(24):
            rows = list(ROWS)
            random.Random(seed).shuffle(rows)
            self.assertEqual(SMALL, read_book("\n".join(rows)))

    def test_wrong_rows(self):
        for at in range(4):
            for row in ("", " ", "x", "1", "9 0 0 0 0 0", "9 0 0 0 0 0 ", "9 0 0 0 0 make block 0.0 0 -", "9 0 0 0 0 0 0 make block 0.0 0 -",
                        " 9 0 0 0 0 0 make block 0.0 0 -", "9 0 0 0 0 0 make block 0.0 0 - ", "9  0 0 0 0 0 make block 0.0 0 -",
                        "9 0 0 0 0 0  make block 0.0 0 -", "09 0 0 0 0 0 make block 0.0 0 -", "9 00 0 0 0 0 make block 0.0 0 -",
                        "9 0 00 0 0 0 make block 0.0 0 -", "9 4 0 0 0 0 make block 0.0 0 -", "0 0 0 0 0 0 make block 0.0 0 -",
                        "1000 0 0 0 0 0 make block 0.0 0 -", "9 0 9 0 0 0 make block 0.0 0 -", "9 0 0 0 0 10 make block 0.0 0 -",
                        "9.0 0 0 0 0 make block 0.0 0 -", "- 0 0 0 0 0 make block 0.0 0 -", "9 0 0 0 0 - make block 0.0 0 -",
                        "9 0 0 0 0 x make block 0.0 0 -", "9 -1 0 0 0 0 make block 0.0 0 -", "9 0 0 0 0 0 make block 0.0 0 -\r",
                        "9\t0 0 0 0 0 make block 0.0 0 -", "9 0 0 0 0 0 jump 1.0", "9 0 0 0 0 0.0 make block 0.0 0 -",
                        *(f"9 0 0 0 0 0 {words}" for words in WRONG if "\n" not in words)):
                rows = ROWS[:at] + [row] + ROWS[at:]
                self.refused(BadRow, at, read_book, "\n".join(rows))
                self.assertIs(False, is_book_text("\n".join(rows)))

    def test_empty_rows(self):
        self.refused(BadRow, 0, read_book, "\n")
        self.refused(BadRow, 0, read_book, "\n" + TEXT)
        self.refused(BadRow, 4, read_book, TEXT + "\n")
        self.refused(BadRow, 1, read_book, TEXT.replace("\n", "\n\n"))
        self.refused(BadRow, 0, read_book, " ")
        self.refused(BadRow, 3, read_book, TEXT + " ")
        self.refused(BadRow, 0, read_book, " " + TEXT)

    def test_a_stamp_twice(self):
        self.refused(BadRow, 4, read_book, TEXT + "\n" + ROWS[0])
        self.refused(BadRow, 1, read_book, "\n".join([ROWS[2], "3 0 0 0 0 0 drop 0.0", "x"]))
        self.refused(BadRow, 2, read_book, "\n".join([ROWS[2], ROWS[1], "x", ROWS[1]]))

    def test_sixty_one_rows(self):
        rows = [f"{time} 0 {time - 1} 0 0 0 make block 0.0 0 -" for time in range(1, 63)]
        self.assertEqual(Book(row_of_blocks(60)), read_book("\n".join(rows[:60])))
        self.refused(TooMany, 60, read_book, "\n".join(rows[:61]))
        self.refused(TooMany, 60, read_book, "\n".join(rows))
        # Each row is looked at first.
        self.refused(BadRow, 61, read_book, "\n".join(rows[:61] + ["x"]))
        self.refused(BadRow, 61, read_book, "\n".join(rows[:61] + rows[:1]))
        # That they are too many comes ahead of what they have seen.
        self.refused(TooMany, 60, read_book, "\n".join(rows[1:62]))
        self.assertIs(False, is_book_text("\n".join(rows[:61])))

    def test_not_closed_and_unseen(self):
        self.refused(NotClosed, (2, 1), read_book, "\n".join(ROWS[1:]))
        self.refused(NotClosed, (3, 0), read_book, "\n".join([ROWS[0], ROWS[2]]))
        self.refused(Unseen, (2, 1), read_book, "\n".join([ROWS[0], "2 1 0 0 0 0 drop 1.0"]))
        self.refused(Unseen, (1, 0), read_book, "1 0 0 0 0 0 drop 9.0")
        # Deed by deed by stamps, whatever the order of the rows.
        self.refused(Unseen, (1, 0), read_book, "3 0 2 0 0 0 drop 0.0\n1 0 0 0 0 0 drop 9.0")
        self.refused(NotClosed, (2, 1), read_book, "3 0 0 0 0 0 drop 9.0\n2 1 0 0 0 0 drop 0.0\n1 1 0 0 0 0 drop 0.0")

    def test_no_texts(self):
        for value in STRANGE:
            if not isinstance(value, str):
                self.refused(BadRow, None, read_book, value)
            elif value:
                self.refused(BadRow, 0, read_book, value)
        for value in (ROWS, tuple(ROWS), TEXT.encode(), SMALL):
            self.refused(BadRow, None, read_book, value)


class IsTest(Case):
    def test_written_texts(self):
        self.assertIs(True, is_book_text(TEXT))
        self.assertIs(True, is_book_text(value=""))

    def test_others(self):
        # Rows in another order are read, but are not the written text.
        self.assertIs(False, is_book_text("\n".join([ROWS[1], ROWS[0], *ROWS[2:]])))
        for value in ("\n", TEXT + "\n", " ", "x", "\n".join(ROWS[1:]), "1 0 0 0 0 0 drop 9.0", TEXT + "\n" + ROWS[0], TEXT.encode(), ROWS, SMALL):
            self.assertIs(False, is_book_text(value), value)
        for value in STRANGE:
            if value != "" or isinstance(value, Likeness):
                self.assertIs(False, is_book_text(value), value)


class RandomTest(Case):
    def test_read_back(self):
        kinds = set()
        for seed in range(80):
            rng = random.Random(seed)
            book = Book(random_deeds(seed, rng.randint(0, 60), hands=seed % 4 + 1))
            text = write_book(book)
            self.assertIs(True, is_book_text(text))
            self.assertEqual(book, read_book(text))
            self.tells(book.deeds(), read_book(text).deeds())
            self.assertEqual(len(book), len(text.split("\n")) if text else 0)
            rows = text.split("\n")
            rng.shuffle(rows)
            self.assertEqual(book, read_book("\n".join(rows)))
            for stamp in book:
                kinds.add(book[stamp][2][0])
                self.tells(book[stamp][2], body_of(body_words(book[stamp][2])))
                row = " ".join([*map(str, stamp), *map(str, book[stamp][1]), body_words(book[stamp][2])])
                self.assertIn(row, rows)
        self.assertEqual(8, len(kinds))

    def test_bent_texts(self):
        """What is read of a text with other signs is written as this text again, but for the order of rows."""
        read = 0
        for seed in range(1500):
            rng = random.Random(seed)
            text = write_book(Book(random_deeds(seed % 40, 6, hands=2, meeting=0.6)))
            at = rng.randrange(len(text))
            text = text[:at] + rng.choice(["", "0", "1", "9", " ", "\n", ".", "-", "x"]) + text[at + rng.randint(0, 1):]
            try:
                book = read_book(text)
            except (BadRow, NotClosed, TooMany, Unseen):
                self.assertIs(False, is_book_text(text))
                continue
            read += 1
            self.assertEqual(sorted(text.split("\n")), sorted(write_book(book).split("\n")))
            self.assertIs(text == write_book(book), is_book_text(text))
        self.assertGreater(read, 100)
