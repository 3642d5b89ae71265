"""The document's words on hands that send, one by one and slowly, and rows of doings made by a seeded generator."""

import random

from tests.model import Model
from tests.samples import ROOT, random_body


class Crowd:
    """Hands that send."""

    def __init__(self, count):
        self.count = count
        self.kept = [{} for _ in range(count)]
        self.packets = {}
        self.number = 0

    def shown(self, hand):
        """The deeds shown: as long as there is one of which all that it has seen last is shown, it is."""
        shown = {}
        while True:
            more = {stamp: deed for stamp, deed in self.kept[hand].items() if stamp not in shown
                    and all(time == 0 or (time, other) in shown for other, time in enumerate(deed[1]))}
            if not more:
                return {stamp: shown[stamp] for stamp in sorted(shown)}
            shown.update(more)

    def waiting(self, hand):
        return sorted(set(self.kept[hand]) - set(self.shown(hand)))

    def lacking(self, hand):
        return sorted({(time, other) for stamp in self.waiting(hand) for other, time in enumerate(self.kept[hand][stamp][1])
                       if time and (time, other) not in self.kept[hand]})

    def branch(self, hand):
        shown = self.shown(hand)
        return tuple(max([time for time, other in shown if other == one], default=0) for one in range(4))

    def all(self):
        return {stamp: deed for kept in self.kept for stamp, deed in kept.items()}

    def do(self, hand, body):
        seen = self.branch(hand)
        stamp = (max(seen) + 1, hand)
        self.kept[hand][stamp] = (stamp, seen, body)
        return stamp

    def line(self, hand):
        return Model(list(self.shown(hand).values())).line(hand)

    def send(self, sender, taker, stamps):
        self.packets[self.number] = (self.number, sender, taker, tuple(sorted(stamps)))
        self.number += 1
        return self.number - 1

    def take(self, packet):
        _, sender, taker, stamps = self.packets[packet]
        self.kept[taker].update({stamp: self.all()[stamp] for stamp in stamps})

    def ask(self, taker, sender):
        came = [stamp for stamp in self.shown(sender) if stamp not in self.kept[taker]]
        self.kept[taker].update({stamp: self.kept[sender][stamp] for stamp in came})
        return came


def random_doing(rng, crowd):
    """What is done next: a tuple of the word and its arguments."""
    hand = rng.randrange(crowd.count)
    other = rng.choice([one for one in range(crowd.count) if one != hand])
    word = rng.choice(["do"] * 6 + ["back", "again"] + ["send"] * 3 + ["take"] * 3 + ["lose", "ask"])
    if len(crowd.all()) >= 60 and word in ("do", "back", "again"):
        word = "take"
    if word == "do":
        shown = crowd.shown(hand)
        return ("do", hand, random_body(rng, sorted(shown), shown, hand))
    if word in ("back", "again"):
        return (word, hand)
    if word == "send":
        kept = sorted(crowd.kept[hand])
        stamps = rng.choice([None, rng.sample(kept, rng.randint(0, min(4, len(kept)))), kept[-3:]])
        return ("send", hand, other, stamps)
    if word == "ask":
        return ("ask", hand, other)
    return (word, rng.choice(sorted(crowd.packets) or [0]))


def do_in_crowd(crowd, doing):
    """Do it, and tell what is returned, or the name of the error."""
    word, *rest = doing
    if word in ("back", "again"):
        done, undone = crowd.line(rest[0])
        if not (done if word == "back" else undone):
            return "NothingBack"
        return crowd.do(rest[0], ("undo", done[-1]) if word == "back" else ("redo", undone[0]))
    if word == "send":
        sender, taker, stamps = rest
        return crowd.send(sender, taker, crowd.kept[sender] if stamps is None else stamps)
    if word in ("take", "lose") and rest[0] not in crowd.packets:
        return "NoPacket"
    if word == "take":
        return crowd.take(rest[0])
    if word == "lose":
        del crowd.packets[rest[0]]
        return None
    return crowd.do(*rest) if word == "do" else crowd.ask(*rest)


def random_doings(seed, many, count=None):
    """A crowd, and the row of pairs of what is done in it and what is returned."""
    rng = random.Random(f"doings {seed}")
    crowd = Crowd(count or rng.randint(2, 4))
    row = []
    for _ in range(many):
        doing = random_doing(rng, crowd)
        row.append((doing, do_in_crowd(crowd, doing)))
    return crowd, row


def make(kind, under=ROOT, key=0, content=None):
    """A body that makes something."""
    return ("make", kind, under, key, content)

