"""Section console.py, with points [23] and [25], on which it rests."""

import random
import re

from sharedscopes.booktexts import body_of, body_words, write_book
from sharedscopes.console import Console
from sharedscopes.errors import BadRow, NoLine, ScopeError, TooMany
from sharedscopes.fates import fate_of
from sharedscopes.hands import Hands
from sharedscopes.reading import made_of
from sharedscopes.scopes import lost_uses
from sharedscopes.slots import open_slots
from sharedscopes.states import State
from sharedscopes.values import value_of
from sharedscopes.writing import text_of
from tests.crowds import Crowd, do_in_crowd, random_doing
from tests.samples import ROOT, STRANGE, Case
from tests.test_booktexts import WRONG

# A good line of each form but `hands`, with the kinds of the words behind the first one.
FORMS = {
    "do 0 make block 0.0 0 -": "HB", "back 0": "H", "again 0": "H", "send 0 1": "HH", "take 0": "P", "lose 0": "P", "ask 0 1": "HH",
    "text 0": "H", "value 0": "H", "lost 0": "H", "waiting 0": "H", "lacking 0": "H", "open 0": "H", "fate 0 1.0": "HS", "branch 0": "H",
    "book 0": "H",
}

FIGURES = re.compile(r"0|[1-9][0-9]{0,2}")
STAMP = re.compile(r"[1-9][0-9]{0,2}\.[0-3]")


def ran(*lines):
    """The answers to the lines, at a new console."""
    console = Console()
    return [console.run(line) for line in lines]


def led(*lines):
    """A console to which these lines were told, each of which is done."""
    console = Console()
    for line in lines:
        answer = console.run(line)
        assert answer not in ("error", "unknown"), line
    return console


def is_line(line):
    """Whether the text is a line of one of the forms."""
    word, *words = line.split(" ")
    kinds = {"hands": "C", **{form.split(" ")[0]: kinds for form, kinds in FORMS.items()}}.get(word)
    if kinds is None or (len(words) < 2 if "B" in kinds else len(words) != len(kinds)):
        return False
    for kind, one in zip(kinds, words):
        if kind in "CHP" and not FIGURES.fullmatch(one) or kind == "S" and not STAMP.fullmatch(one):
            return False
    if "B" in kinds:
        try:
            body_of(" ".join(words[1:]))
        except BadRow:
            return False
    return True


class Plain:
    """The answers as the functions tell them."""

    def __init__(self):
        self.hands = None

    def run(self, line):
        if not is_line(line):
            return "unknown"
        word, *words = line.split(" ")
        try:
            if word == "hands":
                self.hands = Hands(int(words[0]))
                return "ok"
            return "error" if self.hands is None else str(self.answer(word, words))
        except (ScopeError, TooMany):
            return "error"

    def answer(self, word, words):
        numbers = [int(one) for one in words if FIGURES.fullmatch(one)]
        if word == "do":
            stamp = self.hands.do(numbers[0], body_of(" ".join(words[1:])))
        elif word in ("back", "again"):
            stamp = getattr(self.hands, word)(numbers[0])
        elif word in ("take", "lose"):
            getattr(self.hands, word)(numbers[0])
            return "ok"
        elif word == "send":
            return self.hands.send(*numbers)
        elif word == "ask":
            return len(self.hands.ask(*numbers))
        elif word in ("waiting", "lacking"):
            return len(getattr(self.hands, word)(numbers[0]))
        else:
            return self.shown(word, words, self.hands.shown(numbers[0]))
        return f"{stamp[0]}.{stamp[1]}"

    def shown(self, word, words, book):
        state = State(book)
        if word == "fate":
            time, hand = words[1].split(".")
            return fate_of(book, (int(time), int(hand)))[0]
        if word == "value":
            value = value_of(state, ROOT)
            return "none" if value is None else value
        if word == "branch":
            return " ".join(str(book.last(hand)) for hand in range(4))
        return {"text": lambda: text_of(state), "lost": lambda: len(lost_uses(state)), "open": lambda: len(open_slots(book)),
                "book": lambda: len(write_book(book))}[word]()


class LinesTest(Case):
    def test_doings(self):
        self.tells(["ok", "1.0", "1", "2.0", "2.1", "1", "(z =)", "overruled", "stands", "0", "1", "2 2 0 0"],
                   ran("hands 2", "do 0 make let 0.0 1 x", "ask 1 0", "do 0 wish 1.0 y", "do 1 wish 1.0 z", "ask 0 1", "text 0",
                       "fate 0 2.0", "fate 0 2.1", "value 0", "open 0", "branch 0"))

    def test_back_and_again(self):
        self.tells(["ok", "error", "1.1", "5", "2.1", "", "3.1", "5", "error"],
                   ran("hands 2", "back 1", "do 1 make number 0.0 0 5", "text 1", "back 1", "text 1", "again 1", "text 1", "again 1"))

    def test_packets(self):
        self.tells(["ok", "1.0", "2.0", "0", "1", "ok", "ok", "ok", "error", "error", "1 2", "ok", "2"],
                   ran("hands 3", "do 0 make number 0.0 0 1", "do 0 make number 0.0 1 2", "send 0 1", "send 1 2", "take 0", "take 0", "lose 0",
                       "take 0", "lose 0", "text 1", "lose 1", "send 2 0"))

    def test_asking(self):
        self.tells(["ok", "1.1", "1", "0", "0", "0"],
                   ran("hands 2", "do 1 make block 0.0 0 -", "ask 0 1", "ask 0 1", "ask 1 0", "waiting 0"))

    def test_values(self):
        self.tells(["ok", "0", "1.0", "99", "2.0", "none", "1"],
                   ran("hands 2", "value 0", "do 0 make number 0.0 0 99", "value 0", "do 0 make use 0.0 1 -", "value 0", "lost 0"))

    def test_waiting_and_lacking(self):
        console = led("hands 2", "do 0 make block 0.0 0 -", "do 0 make block 1.0 0 -")
        self.tells(["0", "0", "0"], [console.run(line) for line in ("lacking 1", "waiting 1", "waiting 0")])
        # A packet is of all that is kept, so what waits is that which another hand could not show, either.
        twin = Hands(2)
        twin.do(0, ("make", "block", ROOT, 0, None))
        twin.do(0, ("make", "block", (1, 0), 0, None))
        twin.take(twin.send(0, 1, [(2, 0)]))
        console._hands = twin
        self.tells(["1", "1", "0", "0"], [console.run(line) for line in ("waiting 1", "lacking 1", "waiting 0", "lacking 0")])
        self.tells(["error", "0 0 0 0", ""], [console.run(line) for line in ("fate 1 2.0", "branch 1", "text 1")])

    def test_fates(self):
        console = led("hands 2", "do 0 make number 0.0 0 1", "do 0 move 1.0 0.0 5", "do 0 wish 1.0 x", "back 0", "do 0 make block 0.0 0 -",
                      "do 0 move 5.0 5.0 0", "do 0 undo 5.0", "do 0 redo 5.0")
        self.tells(["replaced", "stands", "undone", "error", "stands", "ring", "error"],
                   [console.run(f"fate 0 {stamp}") for stamp in ("1.0", "2.0", "3.0", "4.0", "5.0", "6.0", "7.0")])
        self.tells(["gone"], [led("hands 2", "do 0 make number 0.0 0 1", "do 0 wish 1.0 x").run("fate 0 2.0")])

    def test_book(self):
        console = led("hands 2", "do 0 make let 0.0 1 x")
        self.tells(str(len("1 0 0 0 0 0 make let 0.0 1 x")), console.run("book 0"))
        self.tells("0", console.run("book 1"))

    def test_all_kinds_of_bodies(self):
        console = led("hands 2")
        for at, body in enumerate(("make let 0.0 0 x", "make use 0.0 1 1.0", "make number 1.0 0 7", "make sum 0.0 2 -", "make product 4.0 0 -",
                                   "move 2.0 5.0 999", "wish 1.0 ab", "point 2.0 -", "point 2.0 1.0", "set 3.0 9", "drop 4.0", "undo 11.0")):
            self.tells(f"{at + 1}.0", console.run(f"do 0 {body}"))
        self.tells(["(ab = 9) (+ (* ab))", "9"], [console.run("text 0"), console.run("value 0")])


class HandsTest(Case):
    def test_without_hands(self):
        for line in FORMS:
            console = Console()
            self.tells(["error", "error"], [console.run(line), console.run(line)])
            self.tells("ok", console.run("hands 2"))

    def test_counts(self):
        for count in ("2", "3", "4"):
            self.tells(["ok", "", "error"], ran(f"hands {count}", f"text {int(count) - 1}", f"text {count}"))
        for count in ("0", "1", "5", "999", "10"):
            self.tells(["error", "error", "ok", "0 0 0 0"], ran(f"hands {count}", "text 0", "hands 2", "branch 1"))
        for count in ("", "02", "+2", "2.0", "-", "x", "1000", "2 2", "-2", "\u0662", "2 ", " 2"):
            self.tells(["unknown", "error"], ran(f"hands {count}", "text 0"))

    def test_new_hands(self):
        self.tells(["ok", "1.0", "error", "(+)", "ok", "", "error", "0"],
                   ran("hands 2", "do 0 make sum 0.0 0 -", "hands 7", "text 0", "hands 3", "text 0", "take 0", "send 0 2"))

    def test_errors(self):
        console = led("hands 2", "do 0 make block 0.0 0 -", "send 0 1")
        for line in ("do 2 drop 0.0", "do 9 drop 0.0", "do 999 drop 0.0", "do 1 drop 1.0", "do 0 drop 2.0", "back 1", "back 2", "again 0", "again 7",
                     "send 0 0", "send 2 0", "send 0 2", "take 1", "take 999", "lose 1", "ask 1 1", "ask 0 5", "ask 5 0", "text 2", "value 2", "lost 2",
                     "waiting 2", "lacking 2", "open 2", "fate 2 1.0", "fate 0 2.0", "fate 1 1.0", "fate 0 1.1", "branch 2", "book 2", "hands 1"):
            self.tells("error", console.run(line))
        self.tells(["1 0 0 0", "0 0 0 0", "1", "ok", "1 0 0 0", "0"],
                   [console.run(line) for line in ("branch 0", "branch 1", "send 1 0", "take 0", "branch 1", "ask 1 0")])

    def test_sixty_deeds(self):
        console = led("hands 2", *["do 0 make block 0.0 0 -"] * 60)
        self.tells(["error", "error", "60 0 0 0"], [console.run("do 1 make block 0.0 0 -"), console.run("back 0"), console.run("branch 0")])


class UnknownTest(Case):
    def unknown(self, line):
        """The line is unknown, with and without hands, and changes nothing."""
        self.assertFalse(is_line(line), line)
        self.tells(["unknown", "ok", "1.0", "unknown", "()", "1 0 0 0"],
                   ran(line, "hands 2", "do 0 make block 0.0 0 -", line, "text 0", "branch 0"))

    def test_other_words(self):
        for line in ("", " ", "x", "hand 2", "hands", "Hands 2", "HANDS 2", "text", "undo 0", "redo 0", "keep 0", "exit", "ok", "error", "unknown",
                     "shown 0", "kept 0", "everything", "0", "0 text", "?", "-", "text0", "text-0", "text,0", "text\t0", "run text 0"):
            self.unknown(line)

    def test_a_word_more_or_less_and_two_blanks(self):
        for line in (*FORMS, "hands 2"):
            words = line.split(" ")
            for at in range(len(words)):
                self.unknown(" ".join(words[:at] + words[at + 1:]))
                self.unknown(" ".join(words[:at] + [""] + words[at:]))
            for bent in (line + " ", " " + line, line + " 0", line + " x", line + "\n", "\n" + line, line.replace(" ", "\n", 1), line + "\r",
                         line.replace(" ", "\t", 1), line.upper(), line + " -", line.replace(" ", "  ", 1)):
                self.unknown(bent)

    def test_words_beyond_their_limits(self):
        for line, kinds in {**FORMS, "hands 2": "C"}.items():
            words = line.split(" ")
            for at, kind in enumerate(kinds):
                bent = {"S": ["0.0", "1", "1.", ".0", "1.4", "1000.0", "01.0", "1.00", "-", "x", "0.1", "1.0.0", "(1, 0)", "1,0", "+1.0"],
                        "B": list(WRONG)}.get(kind, ["", "00", "01", "1000", "-1", "+1", "1.0", "x", "-", "0x1", "1_0", "\u0661", "\u00b2", "1,", "0\n"])
                for word in bent:
                    self.unknown(" ".join(words[:at + 1] + [word] + ([] if kind == "B" else words[at + 2:])))

    def test_limits_that_are_kept(self):
        for line in ("text 999", "take 999", "lose 100", "send 10 999", "fate 0 999.3", "fate 999 1.0", "do 999 drop 0.0", "hands 999"):
            self.assertTrue(is_line(line))
            self.tells(["error", "ok", "error"], ran(line, "hands 2", line))

    def test_no_lines(self):
        console = led("hands 2")
        for value in (*STRANGE, b"text 0", ["text 0"], ("text", 0)):
            if not isinstance(value, str):
                self.refused(NoLine, value, console.run, value)
                self.refused(NoLine, value, Console().run, line=value)
            else:
                self.tells("unknown", console.run(line=value))
        self.tells("", console.run("text 0"))


class RandomTest(Case):
    def line(self, rng, crowd):
        """A line that does something, as a crowd might, or asks something."""
        if rng.random() < 0.4:
            hand = rng.randrange(crowd.count + (rng.random() < 0.05))
            word = rng.choice(["text", "value", "lost", "waiting", "lacking", "open", "fate", "branch", "book"])
            stamps = sorted(crowd.all()) or [(1, 0)]
            stamp = rng.choice(stamps)
            return f"{word} {hand}" + (f" {stamp[0]}.{stamp[1]}" if word == "fate" else "")
        doing = random_doing(rng, crowd)
        if doing[0] == "send":
            doing = doing[:3] + (None,)
        do_in_crowd(crowd, doing)
        if doing[0] == "do":
            return f"do {doing[1]} {body_words(doing[2])}"
        return " ".join(str(one) for one in doing if one is not None)

    def test_as_the_functions_tell(self):
        seen = {}
        for seed in range(40):
            rng = random.Random(f"console {seed}")
            crowd = Crowd(rng.randint(2, 4))
            console, plain = Console(), Plain()
            lines = [f"hands {crowd.count}"] + [self.line(rng, crowd) for _ in range(90)]
            for line in lines:
                if rng.random() < 0.1:
                    at = rng.randrange(len(line))
                    bent = line[:at] + rng.choice(["", "0", "5", " ", ".", "x", "\n"]) + line[at + rng.randint(0, 1):]
                    # What is bent may still be done, but not by the crowd.
                    if not is_line(bent):
                        self.tells("unknown", console.run(bent))
                answer = console.run(line)
                self.tells(plain.run(line), answer)
                if answer not in ("error", "unknown"):
                    seen[line.split(" ")[0]] = seen.get(line.split(" ")[0], 0) + 1
            for hand in range(crowd.count):
                self.tells(" ".join(str(time) for time in crowd.branch(hand)), console.run(f"branch {hand}"))
        self.assertTrue(len(seen) == 17 and min(seen.values()) > 10, seen)

    def test_bent_lines(self):
        known = 0
        for seed in range(3000):
            rng = random.Random(seed)
            line = rng.choice([*FORMS, "hands 2", "do 1 make let 0.0 7 ab", "do 0 point 1.0 -", "do 0 set 2.0 15"])
            for _ in range(rng.randint(1, 2)):
                at = rng.randrange(len(line) + 1)
                line = line[:at] + rng.choice(["", "0", "1", "12", " ", ".", "-", "x", "\n"]) + line[at + rng.randint(0, 1):]
            console, plain = Console(), Plain()
            for one in ("hands 2", "do 0 make let 0.0 0 x", "do 0 make number 1.0 0 5", "send 0 1"):
                self.tells(plain.run(one), console.run(one))
            known += is_line(line)
            self.tells(plain.run(line), console.run(line))
            self.tells(plain.run("book 0"), console.run("book 0"))
            if not is_line(line):
                self.tells("unknown", Console().run(line))
        self.assertGreater(known, 100)

    def test_texts_that_are_typed_in(self):
        for text in ("(x = 5) (+ x 1)", "(a = (b = 1) b) (* a a)"):
            console = led("hands 2", *[f"do 0 {body_words(deed[2])}" for deed in made_of(text).deeds()])
            self.tells(text, console.run("text 0"))
            self.tells(str(len(write_book(made_of(text)))), console.run("book 0"))
