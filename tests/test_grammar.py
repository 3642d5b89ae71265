"""Point [16] and section grammar.py."""

import itertools
import random

from sharedscopes.errors import BadText, NoIndex
from sharedscopes.grammar import is_text, item_at, plain_of, spans_of
from tests.programs import random_text, wrong_at
from tests.samples import STRANGE, Case

SIGNS = "ab019()+*=? "

RIGHT = ("", "0", "9", "10", "99", "?", "x", "abcd", "x1", "abcd99", "()", "(1)", "(+)", "(+ 1)", "(+ ())", "(*)", "(* x ?)",
         "(x =)", "(x = 1)", "(x99 = ? ())", "(x)", "(x x)", "((x =) x)", "1 2", "(()) ()", "((+))", "((((()))))",
         "(x (x = (x)))", "(a b)", "0 0 0", "(x = (+ (* 1 2) x) y)")

# Texts that are none, each with how far they agree with some text.
WRONG = {" ": 0, " 1": 0, "1 ": 2, "1  2": 2, "1 2 ": 4, "00": 1, "01": 1, "007": 1, "100": 2, "999": 2, "-1": 0, "+": 0,
         "*": 0, "=": 0, "a0": 1, "a00": 1, "a01": 1, "a100": 3, "a1b": 2, "abcde": 4, "abcde1": 4, "A": 0, "aB": 1,
         "1a": 1, "0a": 1, "??": 1, "?a": 1, "a?": 1, "1?": 1, "(": 1, ")": 0, "())": 2, "(()": 3, "(1": 2, "(1 ": 3,
         "( 1)": 1, "( )": 1, "(1 )": 3, "(+": 2, "(+1)": 2, "(+ )": 3, "(+  1)": 3, "(+ 1": 4, "(+ 1 )": 5, "(++)": 2,
         "(+*)": 2, "(x =": 4, "(x = ": 5, "(x = )": 5, "(x =1)": 4, "(x= 1)": 2, "(x  = 1)": 3, "(x ==)": 4, "(x = = 1)": 5,
         "(1 = 2)": 3, "(? = 2)": 3, "x = 1": 2, "(x": 2, "(x ": 3, "(x y = 1)": 5, "(x1 =": 5, "(x0 = 1)": 2, "(x100 = 1)": 4,
         "(abcde = 1)": 5, "(X = 1)": 1, "(= 1)": 1, "()()": 2, "()1": 2, "1()": 1, "x()": 1, "(1)2": 3, "1)": 1, "1\n2": 1,
         "\n": 0, "1\t2": 1, "(+\n1)": 2, "1,2": 1, "[1]": 0, "{}": 0, "1.0": 1, "1;": 1, "\u00e4": 0, "\u0661": 0, "1\u0661": 1,
         "a\u00b2": 1, "x1\u0662": 2, "(+ 1) )": 6, "(x (+": 5, "((x =": 5, "(x =) ": 6}


class TextTest(Case):
    def test_right_ones(self):
        for text in RIGHT:
            self.assertIs(True, is_text(text), text)
        self.assertIs(True, is_text(value="1"))

    def test_wrong_ones(self):
        for text, at in WRONG.items():
            self.assertIs(False, is_text(text), text)
            for call in (plain_of, spans_of):
                self.refused(BadText, at, call, text)
            self.refused(BadText, at, item_at, text, None)

    def test_what_is_no_text_at_all(self):
        for value in (*STRANGE, b"1", ["1"], ("1",), {"1": 1}):
            if not isinstance(value, str):
                self.assertIs(False, is_text(value))
                self.refused(BadText, 0, plain_of, value)
                self.refused(BadText, 0, spans_of, value)
                self.refused(BadText, 0, item_at, value, None)

    def test_all_short_ones(self):
        """All of up to four signs, and many longer ones, against the grammar as it is put away from within."""
        for many in range(5):
            for signs in itertools.product(SIGNS, repeat=many):
                self.agree("".join(signs))

    def test_drawn_ones(self):
        rng = random.Random(16)
        for seed in range(200):
            text = random_text(seed, 10)
            self.agree(text)
            for _ in range(8):
                self.agree(bent(rng, text))
            signs = "".join(rng.choice("((()))  xx+*=1") for _ in range(rng.randint(5, 9)))
            self.agree(signs)

    def agree(self, text):
        at = wrong_at(text)
        self.assertIs(at is None, is_text(text), text)
        if at is not None:
            self.refused(BadText, at, plain_of, text)

    def test_deep_and_long_ones(self):
        deep = "(" * 100 + ")" * 100
        self.assertIs(True, is_text(deep))
        self.refused(BadText, 199, plain_of, deep[:-1])
        self.refused(BadText, 200, plain_of, deep + ")")
        self.assertEqual(100, len(spans_of(deep)))
        self.tells((0,) * 100, item_at(deep, 99))
        long = " ".join(["x"] * 10000)
        self.assertEqual((("use", "x"),) * 10000, plain_of(long))
        self.refused(BadText, 20000, plain_of, long + " ")
        self.tells([((9999,), 19998, 19999)], spans_of(long)[-1:])


class PlainTest(Case):
    def test_items(self):
        for text, plain in {
                "": (), "0": (("number", 0),), "10": (("number", 10),), "99": (("number", 99),), "?": (("lost",),),
                "x": (("use", "x"),), "abcd99": (("use", "abcd99"),), "()": (("block", ()),), "(+)": (("sum", ()),),
                "(*)": (("product", ()),), "(x =)": (("let", "x", ()),), "(x1 = 1)": (("let", "x1", (("number", 1),)),),
                "(x)": (("block", (("use", "x"),)),), "(x y)": (("block", (("use", "x"), ("use", "y"))),),
                "((x =) x)": (("block", (("let", "x", ()), ("use", "x"))),),
                "1 (+ 2 (* ?)) 3": (("number", 1), ("sum", (("number", 2), ("product", (("lost",),)))), ("number", 3)),
        }.items():
            self.tells(plain, plain_of(text))
        self.tells((("lost",),), plain_of(text="?"))

    def test_it_is_just_the_text(self):
        for seed in range(150):
            text = random_text(seed, 20)
            self.assertEqual(text, written(plain_of(text)))


class SpanTest(Case):
    def test_spans(self):
        self.tells([], spans_of(""))
        self.tells([((0,), 0, 2), ((1,), 3, 9), ((1, 0), 6, 8)], spans_of("10 (+ ab)"))
        self.tells([((0,), 0, 9), ((0, 0), 5, 8), ((0, 0, 0), 6, 7)], spans_of("(x = (1))"))
        self.tells([((0,), 0, 2), ((1,), 3, 6), ((2,), 7, 12)], spans_of(text="() (+) (x =)"))

    def test_the_innermost_item(self):
        text = "10 (+ (ab)) ?"
        paths = [(0,), (0,), (), (1,), (1,), (1,), (1, 0), (1, 0, 0), (1, 0, 0), (1, 0), (1,), (), (2,)]
        self.tells(paths, [item_at(text, index) for index in range(len(text))])
        self.tells((1, 0), item_at(text=text, index=6))
        self.tells([(0,)] * 4 + [(0,)] + [(0, 0)] + [(0,)], [item_at("(x = 1)", index) for index in range(7)])

    def test_wrong_indexes(self):
        for text in ("", "1", "10 (+ x)"):
            for value in (*STRANGE, len(text), len(text) + 1, -1):
                if not (isinstance(value, int) and not isinstance(value, bool) and 0 <= value < len(text)):
                    self.refused(NoIndex, value, item_at, text, value)

    def test_drawn_texts(self):
        for seed in range(100):
            text = random_text(seed, 16)
            spans = spans_of(text)
            self.tells([path for path, _ in paths_of(plain_of(text))], [path for path, _, _ in spans])
            self.assertEqual(sorted(spans, key=lambda row: row[1]), spans)
            for (path, first, behind), (_, item) in zip(spans, paths_of(plain_of(text))):
                self.assertEqual(written((item,)), text[first:behind])
            for index in range(len(text)):
                around = [path for path, first, behind in spans if first <= index < behind]
                self.tells(max(around, key=len, default=()), item_at(text, index))


def bent(rng, text):
    """The text with a sign or two changed."""
    for _ in range(rng.choice([1, 1, 2])):
        at = rng.randint(0, len(text))
        sign = rng.choice(SIGNS + "z")
        text = rng.choice([text[:at] + sign + text[at:], text[:at] + text[at + 1:], text[:at] + sign + text[at + 1:],
                           text[:at]])
    return text


def paths_of(items, path=()):
    """The pairs (path, item) of a plain program, as they begin."""
    for at, item in enumerate(items):
        yield (*path, at), item
        if item[0] in ("block", "sum", "product", "let"):
            yield from paths_of(item[-1], (*path, at))


def written(items):
    """The text of a plain program."""
    shown = []
    for word, *rest in items:
        if word in ("number", "use"):
            shown.append(str(rest[0]))
        elif word == "lost":
            shown.append("?")
        else:
            head = {"block": [], "sum": ["+"], "product": ["*"], "let": [f"{rest[0]} ="]}[word]
            inner = written(rest[-1])
            shown.append("(" + " ".join(head + [inner] * bool(inner)) + ")")
    return " ".join(shown)
