"""Hands that send one another their deeds."""

from sharedscopes.basics import is_from, is_number
from sharedscopes.books import Book, check_among, check_room
from sharedscopes.branches import all_of
from sharedscopes.deeds import is_body, names_in
from sharedscopes.errors import NoBody, NoHand, NoPacket, NothingBack
from sharedscopes.marks import next_redo, next_undo
from sharedscopes.posts import Post


class Trial:
    """A try of some hands: what is done in its block is taken back, unless it is to be kept."""

    def __init__(self, hands):
        self._hands = hands
        self._post = None
        self._stays = None

    def keep(self):
        """Let what is done in the block stay, if no exception leaves it."""
        self._stays = True

    def __enter__(self):
        self._post = self._hands.post.twin()
        self._stays = None
        return self._hands

    def __exit__(self, kind, value, trace):
        if kind is not None or self._stays is None:
            self._hands.post = self._post


class Hands:
    """Two to four hands, the deeds that each of them keeps, and the packets on the way."""

    def __init__(self, count):
        if not is_from(count, 2, 4):
            raise NoHand(count)
        self._count = count
        self.post = Post(count)

    @property
    def many(self):
        """How many hands there are."""
        return self._count

    def do(self, hand, body):
        """Let the hand do the body, and tell the stamp."""
        shown = self.shown(hand)
        if not is_body(body) or not all([name in shown for name in names_in(body)]):
            raise NoBody(body)
        return self._do(hand, shown, body)

    def back(self, hand):
        """Let the hand do its next undo, and tell the stamp of the mark."""
        shown = self.shown(hand)
        stamp = next_undo(shown, hand)
        if stamp is None:
            raise NothingBack("undo")
        return self._do(hand, shown, ("undo", stamp))

    def again(self, hand):
        """Let the hand do its next redo, and tell the stamp of the mark."""
        shown = self.shown(hand)
        stamp = next_redo(shown, hand)
        if stamp is None:
            raise NothingBack("redo")
        return self._do(hand, shown, ("redo", stamp))

    def send(self, sender, taker, stamps=None):
        """Put a packet of kept deeds, or of all of them, on the way, and tell its number."""
        self._check_two(sender, taker)
        held = self.post.held[sender]
        if stamps is None:
            return self.post.put_packet(sender, taker, list(held))
        check_among(stamps, held)
        return self.post.put_packet(sender, taker, stamps)

    def take(self, packet):
        """Let the taker keep the deeds of the packet, which stays on the way."""
        self._check_packet(packet)
        _, _, taker, stamps = self.post.sent[packet]
        self.post.keep_all(taker, stamps)

    def lose(self, packet):
        """Take the packet off the way."""
        self._check_packet(packet)
        del self.post.sent[packet]

    def ask(self, taker, sender):
        """Let the taker keep at once what the sender shows, and tell what came."""
        self._check_two(taker, sender)
        came = [stamp for stamp in self.post.shown(sender) if stamp not in self.post.held[taker]]
        self.post.keep_all(taker, came)
        return came

    def packets(self):
        """The list of (number, sender, taker, stamps) of the packets on the way, by numbers."""
        return list(self.post.sent.values())

    def kept(self, hand):
        """The stamps of the deeds that the hand keeps, ascending."""
        self._check_hand(hand)
        return sorted(self.post.held[hand])

    def waiting(self, hand):
        """The stamps of the deeds that the hand keeps and does not show, ascending."""
        self._check_hand(hand)
        shown = self.post.shown(hand)
        return [stamp for stamp in self.kept(hand) if stamp not in shown]

    def lacking(self, hand):
        """The stamps that deeds that wait have seen last of some hand, and that are not kept, ascending."""
        found = set()
        for stamp in self.waiting(hand):
            for other, time in enumerate(self.post.done[stamp][1]):
                if time != 0 and (time, other) not in self.post.held[hand]:
                    found.add((time, other))
        return sorted(found)

    def shown(self, hand):
        """The Book of the deeds that the hand shows."""
        self._check_hand(hand)
        return Book(list(self.post.shown(hand).values()))

    def branch(self, hand):
        """The branch of all that the hand shows."""
        return all_of(self.shown(hand))

    def everything(self):
        """The Book of all deeds done by any hand."""
        return Book(list(self.post.done.values()))

    def trial(self):
        """A trial, to be used once with `with`, which gives these hands."""
        return Trial(self)

    def trying(self, guest, *, kept=False):
        """Call the guest with these hands in a trial, which stays if that is wanted, and tell what it returns."""
        trial = self.trial()
        with trial as hands:
            told = guest(hands)
            if kept is True:
                trial.keep()
        return told

    def twin(self):
        """Equal hands that go on by themselves."""
        other = Hands(self._count)
        other.post = self.post.twin()
        return other

    def _do(self, hand, shown, body):
        """Let the hand, which shows this book, do a body that names only what is of it."""
        seen = all_of(shown)
        time = max(seen) + 1
        check_room(len(self.post.done), time, 1)
        self.post.keep_own(((time, hand), seen, body))
        return (time, hand)

    def _check_hand(self, hand):
        """Refuse what is none of these hands."""
        if not is_from(hand, 0, self._count - 1):
            raise NoHand(hand)

    def _check_two(self, one, other):
        """Refuse what is none of these hands, and the same one twice."""
        self._check_hand(one)
        self._check_hand(other)
        if one == other:
            raise NoHand(other)

    def _check_packet(self, packet):
        """Refuse what is no packet on the way."""
        if not is_number(packet) or packet not in self.post.sent:
            raise NoPacket(packet)

    def __eq__(self, other):
        return (isinstance(other, Hands) and self._count == other._count and self.post.done == other.post.done
                and self.post.held == other.post.held and self.post.sent == other.post.sent
                and self.post.number == other.post.number)
