"""Point [17] and section reading.py."""

import itertools
import random

from sharedscopes.books import Book
from sharedscopes.errors import BadText, NotVisible, TooMany
from sharedscopes.grammar import plain_of, spans_of
from sharedscopes.reading import made_of, meant_lets, read_shape
from tests.programs import random_text, tangled_items
from tests.samples import ROOT, STRANGE, Case
from tests.test_grammar import WRONG, paths_of

CALLS = (read_shape, meant_lets, made_of)


class ShapeTest(Case):
    def test_items(self):
        for text, shape in {
                "": (), "5": (("number", 5),), "?": (("lost",),), "()": (("block", ()),), "(+ 1)": (("sum", (("number", 1),)),),
                "(*)": (("product", ()),), "(x =)": (("let", ()),), "(x99 = 1 ?)": (("let", (("number", 1), ("lost",))),),
                "(x =) x": (("let", ()), ("use", 0)), "(x =) (y =) x y": (("let", ()), ("let", ()), ("use", 0), ("use", 1)),
        }.items():
            self.tells(shape, read_shape(text))
        self.tells((("lost",),), read_shape(text="?"))

    def test_lets_are_counted_as_they_begin(self):
        self.tells((("let", (("let", ()), ("use", 1))), ("let", ()), ("use", 2), ("use", 0)),
                   read_shape("(x = (y =) y) (z =) z x"))

    def test_the_names_do_not_matter(self):
        self.assertEqual(read_shape("(x =) (y = x) (x =) y x"), read_shape("(a1 =) (a2 = a1) (a3 =) a2 a3"))


class MeantTest(Case):
    def test_the_last_let_ahead(self):
        self.tells([((2,), (1,))], meant_lets("(x =) (x =) x"))
        self.tells([((1,), (0,)), ((3,), (2,))], meant_lets("(x =) x (x =) x"))
        self.tells([((1, 1), (1, 0)), ((2,), (0,))], meant_lets("(x =) ((x =) x) x"))

    def test_within_the_let_of_the_own_name(self):
        self.tells([((1, 0), (0,))], meant_lets("(x =) (x = x)"))
        self.tells([((1, 0, 0), (0,)), ((1, 1), (1, 0)), ((2,), (1,))], meant_lets("(x =) (x = (x = x) x) x"))

    def test_visible_at_the_holder(self):
        self.tells([((1, 0, 0, 0), (0,))], meant_lets("(x =) (+ (* (x)))"))
        self.tells([], meant_lets("? (x = ?)"))
        self.tells([((1,), (0,))], meant_lets(text="(x =) x"))

    def test_as_the_uses_begin(self):
        self.tells([((2,), (1,)), ((3, 0), (0,)), ((4,), (1,))], meant_lets("(x =) (y =) y (x) y"))

    def test_uses_that_mean_no_let(self):
        for text, at in {"x": 0, "(x = x)": 5, "x (x =)": 0, "((x =)) x": 8, "(x =) x1": 6, "(x1 =) x": 7, "(x =) (y)": 7,
                         "(x = (y =)) (+ y z)": 15, "(x =) x y z": 8, "(x = (x = x))": 10, "(x = (x = 1) x) (y = y)": 21,
                         "1 (+ 2 ab)": 7}.items():
            for call in CALLS:
                self.refused(NotVisible, at, call, text)

    def test_wrong_texts(self):
        for call in CALLS:
            for text, at in WRONG.items():
                self.refused(BadText, at, call, text)
            for value in STRANGE:
                if not isinstance(value, str):
                    self.refused(BadText, 0, call, value)
            # What is no text is refused as such, though a use of it means no let.
            self.refused(BadText, 2, call, "x ")


class MadeTest(Case):
    def test_the_example(self):
        book = Book().followed(0, [("make", "let", ROOT, 0, "x"), ("make", "number", (1, 0), 0, 5),
                                   ("make", "use", ROOT, 1, (1, 0))])
        self.assertEqual(book, made_of("(x1 = 5) x1"))
        self.tells(book.deeds(), made_of(text="(x99 = 5) x99").deeds())

    def test_each_kind(self):
        self.tells([("make", "block", ROOT, 0, None), ("make", "sum", (1, 0), 0, None),
                    ("make", "product", (1, 0), 1, None), ("make", "number", (3, 0), 0, 0), ("make", "use", (3, 0), 1, None),
                    ("make", "let", (3, 0), 2, "abcd"), ("make", "use", (3, 0), 3, (6, 0)), ("make", "number", ROOT, 1, 99)],
                   [deed[2] for deed in made_of("((+) (* 0 ? (abcd7 =) abcd7)) 99").deeds()])

    def test_each_deed_has_seen_the_ones_ahead(self):
        self.tells([((1, 0), (0, 0, 0, 0)), ((2, 0), (1, 0, 0, 0)), ((3, 0), (2, 0, 0, 0))],
                   [deed[:2] for deed in made_of("1 2 3").deeds()])

    def test_empty(self):
        self.assertEqual(Book(), made_of(""))

    def test_sixty_items_and_more(self):
        self.assertEqual(60, len(made_of(" ".join(["1"] * 60))))
        self.assertEqual(60, len(made_of("(" * 60 + ")" * 60)))
        for many in (61, 62, 999, 1000, 5000):
            self.refused(TooMany, 60, made_of, " ".join(["1"] * many))
        self.refused(TooMany, 60, made_of, "(" * 61 + ")" * 61)
        self.refused(NotVisible, 120, made_of, " ".join(["1"] * 60 + ["x"]))
        self.refused(BadText, 121, made_of, " ".join(["1"] * 60 + ["x0"]))
        self.assertEqual(61, len(read_shape(" ".join(["1"] * 61))))


class RandomTest(Case):
    def texts(self):
        for seed in range(120):
            yield random_text(seed, 20)
        for seed in range(60):
            yield " ".join(tangled_items(random.Random(seed), 20, [], []))

    def meant(self, plain):
        """For each use the let that it means: of those of its name that are visible the one that begins last."""
        items = list(paths_of(plain))
        pairs = []
        for path, item in items:
            if item[0] == "use":
                seen = [other for other, let in items if let[:2] == ("let", item[1]) and self.is_visible(other, path)]
                pairs.append((path, seen[-1] if seen else None))
        return pairs

    def is_visible(self, let, path):
        """Whether a let is ahead of an item, or of what this is in, under the same holder."""
        return len(let) <= len(path) and path[:len(let) - 1] == let[:-1] and let[-1] < path[len(let) - 1]

    def test_as_the_document_says(self):
        for text in self.texts():
            plain = plain_of(text)
            pairs = self.meant(plain)
            self.tells(pairs, meant_lets(text))
            lets = [path for path, item in paths_of(plain) if item[0] == "let"]
            shape = list(paths_of(read_shape(text)))
            self.assertEqual([path for path, _ in paths_of(plain)], [path for path, _ in shape])
            for (path, item), (_, told) in zip(paths_of(plain), shape):
                if item[0] == "use":
                    self.tells(("use", lets.index(dict(pairs)[path])), told)
                else:
                    known = 2 if item[0] == "number" else 1
                    self.tells(item[:known], told[:known])

    def test_the_first_use_that_means_no_let(self):
        found = 0
        for seed, text in enumerate(self.texts()):
            text = text.replace("x", random.Random(seed).choice(["x", "q", "x"]), seed % 5)
            wrong = [path for path, let in self.meant(plain_of(text)) if let is None]
            if wrong:
                found += 1
                at = [first for path, first, _ in spans_of(text) if path == wrong[0]][0]
                for call in CALLS:
                    self.refused(NotVisible, at, call, text)
        self.assertGreater(found, 10)

    def test_books(self):
        for text in itertools.islice(self.texts(), 100):
            book, items = made_of(text), list(paths_of(plain_of(text)))
            stamps = {path: (at + 1, 0) for at, (path, _) in enumerate(items)}
            stamps[()] = ROOT
            meant = dict(meant_lets(text))
            for path, item in items:
                word, kind, under, key, content = book[stamps[path]][2]
                self.tells(("make", stamps[path[:-1]], path[-1]), (word, under, key))
                self.tells("use" if item[0] == "lost" else item[0], kind)
                if kind == "use":
                    told = stamps[meant[path]] if path in meant else None
                elif kind == "let":
                    told = item[1].rstrip("0123456789")
                else:
                    told = item[1] if kind == "number" else None
                self.tells(told, content)
