"""Texts made by a seeded generator, what the grammar says of them without the package, and broken states of them."""

import random
import re

from sharedscopes.reading import made_of
from sharedscopes.states import State
from tests.model import Model
from tests.views import View

ATOM = r"(?:#|\?|0|[1-9][0-9]?|[a-z]{1,4}(?:[1-9][0-9]?)?)"
INNER = re.compile(rf"\((?:|{ATOM}(?: {ATOM})*|[+*](?: {ATOM})*|[a-z]{{1,4}}(?:[1-9][0-9]?)? =(?: {ATOM})*)\)")
WHOLE = re.compile(rf"(?:|{ATOM}(?: {ATOM})*)")


def is_whole(text):
    """Whether it is a text: what has no bracket in it is put away, from within."""
    if "#" in text:
        return False
    while True:
        less = INNER.sub("#", text)
        if less == text:
            return WHOLE.fullmatch(text) is not None
        text = less


def wrong_at(text):
    """How many signs the longest beginning has that is shared with some text; None of a text."""
    if is_whole(text):
        return None
    for many in range(len(text), -1, -1):
        begun = text[:many]
        ends = ")" * max(0, begun.count("(") - begun.count(")"))
        if is_whole(begun + ends) or is_whole(begun + "0" + ends):
            return many
    return None


def random_items(rng, room, names, lost=0.1):
    """The texts of some items, with at most so much room; names are those that are visible."""
    shown, names, left = [], list(names), room
    while left > 0 and rng.random() < 0.95:
        many = min(rng.randint(0, left - 1), rng.choice([1, 2, 5, left]))
        word = rng.choice(["let", "let", "let", "let", "block", "block", "sum", "product", "number", "use"]
                          + ["use"] * 8 * bool(names))
        if word == "use":
            shown.append(rng.choice(names) if names and rng.random() > lost else "?" if lost else "0")
            left -= 1
        elif word == "number":
            shown.append(str(rng.choice([0, 1, 2, 9, 10, 99])))
            left -= 1
        else:
            inner = random_items(rng, many, names, lost)
            left -= 1 + sum(count_items(part) for part in inner)
            head = {"sum": ["(+"], "product": ["(*"], "block": []}.get(word)
            name = rng.choice(["x", "y", "ab", "x1", "x2", "y99"])
            head = [f"({name} ="] if head is None else head
            shown.append(" ".join([*head, *inner]) + ")" if head else "(" + " ".join(inner) + ")")
            if word == "let":
                names.append(name)
    return shown


def count_items(text):
    """How many items there are in a text: signs that begin one, a let's name not being one of its own."""
    return len(re.findall(r"\((?:[a-z]+[0-9]* =)?|[a-z?0-9]+", text))


def random_text(seed, room=12, lost=0.1):
    rng = random.Random(seed)
    return " ".join(random_items(rng, room, [], lost))


def tangled_items(rng, room, names, made):
    """The texts of some items in which lets, most of them of one wish, are used far from where they stand."""
    shown, names, left = [], list(names), room
    while left > 0:
        many = min(rng.randint(0, left - 1), rng.choice([0, 0, 1, 2, 4]))
        word = rng.choice(["let", "let", "block"] + ["use"] * 4 * bool(names))
        if word == "use":
            shown.append(rng.choice(names))
            left -= 1
            continue
        inner = tangled_items(rng, many, names, made)
        left -= 1 + many
        if word == "block":
            shown.append("(" + " ".join(inner) + ")")
            continue
        made.append(rng.choice(["x", "x", "x", "y"]) + str(len(made) + 1))
        names.append(made[-1])
        shown.append(" ".join([f"({made[-1]} =", *inner]) + ")")
    return shown


def tangled(many, room=14):
    """So many pairs of a state and its view, of texts in which many lets meet."""
    for seed in range(many):
        yield shown(made_of(" ".join(tangled_items(random.Random(f"tangled {seed}"), room, [], []))))


def scattered(many, room=14):
    """So many pairs of a state and its view, in which uses point to lets wherever these are."""
    for seed in range(many):
        rng = random.Random(f"scattered {seed}")
        book = made_of(" ".join(tangled_items(rng, room, [], [])))
        uses = [stamp for stamp in book if book[stamp][2][1] == "use"]
        lets = [stamp for stamp in book if book[stamp][2][1] == "let"]
        yield shown(book.followed(1, [("point", use, rng.choice(lets)) for use in uses if rng.random() < 0.7]))


def random_book(seed, room=12, turns=3):
    """The book made of a text, with some wishes, moves and drops behind it that may break it."""
    rng = random.Random(f"broken {seed}")
    book = made_of(random_text(seed, room))
    makes = book.listed()
    lets = [stamp for stamp in makes if book[stamp][2][1] == "let"]
    holders = [stamp for stamp in makes if book[stamp][2][1] in ("block", "let", "sum", "product")]
    bodies = []
    for _ in range(rng.randint(0, turns) if makes else 0):
        word = rng.choice(["wish", "wish", "move", "move", "drop", "point"])
        if word == "wish" and lets:
            bodies.append(("wish", rng.choice(lets), rng.choice(["x", "y", "ab"])))
        elif word == "move":
            bodies.append(("move", rng.choice(makes), rng.choice([(0, 0), *holders]), rng.randrange(4)))
        elif word == "drop" and rng.random() < 0.4:
            bodies.append(("drop", rng.choice(makes)))
        elif word == "point":
            bodies.append(("point", rng.choice(makes), rng.choice([None, (0, 0), *makes])))
    return book.followed(0, bodies)


def shown(book):
    """The state of the book, and the view of it without the package."""
    return State(book), View(Model(book.deeds()))


def drawn(many, room=12, turns=3):
    """So many pairs of a state and its view."""
    for seed in range(many):
        yield shown(random_book(seed, room, turns))
