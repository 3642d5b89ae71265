"""A console: lines of words, each answered by a text."""

from sharedscopes.booktexts import body_of, write_book
from sharedscopes.deeds import ROOT, is_stamp
from sharedscopes.errors import BadRow, NoBody, NoHand, NoLine, NoPacket, NoStamp, NothingBack, TooMany
from sharedscopes.fates import fate_of
from sharedscopes.hands import Hands
from sharedscopes.scopes import lost_uses
from sharedscopes.slots import open_slots
from sharedscopes.states import State
from sharedscopes.values import value_of
from sharedscopes.words import number_in, thing_in, word_for
from sharedscopes.writing import text_of

# What stands behind the first word of a line.
_FORMS = {
    "hands": ("number",),
    "do": ("number", "body"),
    "back": ("number",),
    "again": ("number",),
    "send": ("number", "number"),
    "take": ("number",),
    "lose": ("number",),
    "ask": ("number", "number"),
    "text": ("number",),
    "value": ("number",),
    "lost": ("number",),
    "waiting": ("number",),
    "lacking": ("number",),
    "open": ("number",),
    "fate": ("number", "stamp"),
    "branch": ("number",),
    "book": ("number",),
}


def _do(hands, hand, body):
    return word_for(hands.do(hand, body))


def _back(hands, hand):
    return word_for(hands.back(hand))


def _again(hands, hand):
    return word_for(hands.again(hand))


def _send(hands, sender, taker):
    return str(hands.send(sender, taker))


def _take(hands, packet):
    hands.take(packet)
    return "ok"


def _lose(hands, packet):
    hands.lose(packet)
    return "ok"


def _ask(hands, taker, sender):
    return str(len(hands.ask(taker, sender)))


def _text(hands, hand):
    return text_of(State(hands.shown(hand)))


def _value(hands, hand):
    value = value_of(State(hands.shown(hand)), ROOT)
    return "none" if value is None else str(value)


def _lost(hands, hand):
    return str(len(lost_uses(State(hands.shown(hand)))))


def _waiting(hands, hand):
    return str(len(hands.waiting(hand)))


def _lacking(hands, hand):
    return str(len(hands.lacking(hand)))


def _open(hands, hand):
    return str(len(open_slots(hands.shown(hand))))


def _fate(hands, hand, stamp):
    return fate_of(hands.shown(hand), stamp)[0]


def _branch(hands, hand):
    return " ".join([str(time) for time in hands.branch(hand)])


def _book(hands, hand):
    return str(len(write_book(hands.shown(hand))))


_ANSWERS = {
    "do": _do,
    "back": _back,
    "again": _again,
    "send": _send,
    "take": _take,
    "lose": _lose,
    "ask": _ask,
    "text": _text,
    "value": _value,
    "lost": _lost,
    "waiting": _waiting,
    "lacking": _lacking,
    "open": _open,
    "fate": _fate,
    "branch": _branch,
    "book": _book,
}


class Console:
    """Hands that are led by lines; at first there are none."""

    def __init__(self):
        self._hands = None

    def run(self, line):
        """The answer to the line."""
        if not isinstance(line, str):
            raise NoLine(line)
        word, values = _read(line)
        if values is None:
            return "unknown"
        try:
            return self._answer(word, values)
        except (NoBody, NoHand, NoPacket, NoStamp, NothingBack, TooMany):
            return "error"

    def _answer(self, word, values):
        """The answer to a line of this word, by the values of those behind it."""
        if word == "hands":
            self._hands = Hands(values[0])
            return "ok"
        if self._hands is None:
            return "error"
        answer = _ANSWERS[word]
        return answer(self._hands, *values)


def _read(line):
    """The pair of the first word of the line and the list of what stands behind it, None if it is no line."""
    word, _, rest = line.partition(" ")
    if word not in _FORMS:
        return word, None
    form = _FORMS[word]
    # The last value takes all the rest, as a body is several words; no other value has a blank in it.
    texts = rest.split(" ", len(form) - 1)
    if len(texts) != len(form):
        return word, None
    values = [_read_value(kind, text) for kind, text in zip(form, texts)]
    return word, (None if None in values else values)


def _read_value(kind, text):
    """The value of this kind that the text stands for, or None."""
    if kind == "number":
        return number_in(text)
    if kind == "stamp":
        thing = thing_in(text)
        return thing if is_stamp(thing) else None
    try:
        return body_of(text)
    except BadRow:
        return None
