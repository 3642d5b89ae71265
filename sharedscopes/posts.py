"""Posts: what hands have done, what each of them keeps, and the packets that lie on the way between them."""


class Post:
    """The deeds done by all hands, which of them each hand keeps, the packets on the way, and the next one's number."""

    def __init__(self, count):
        self.done = {}
        self.held = [{} for _ in range(count)]
        self.sent = {}
        self.number = 0

    def keep_own(self, deed):
        """Take in a deed that its hand has done."""
        self.done[deed[0]] = deed
        self.keep_all(deed[0][1], [deed[0]])

    def keep_all(self, hand, stamps):
        """Let the hand keep the deeds of these stamps."""
        for stamp in stamps:
            self.held[hand][stamp] = True

    def put_packet(self, sender, taker, stamps):
        """Put a packet on the way, and tell its number."""
        number = self.number
        self.sent[number] = (number, sender, taker, tuple(sorted(stamps)))
        self.number += 1
        return number

    def shown(self, hand):
        """The dict from the stamps that the hand shows, ascending, to the deeds."""
        shown = {}
        # What a deed has seen has lesser times, so it is looked at ahead of the deed.
        for stamp in sorted(self.held[hand]):
            seen = self.done[stamp][1]
            if all([time == 0 or (time, other) in shown for other, time in enumerate(seen)]):
                shown[stamp] = self.done[stamp]
        return shown

    def twin(self):
        """An equal post that goes on by itself."""
        other = Post(len(self.held))
        other.done = {stamp: self.done[stamp] for stamp in self.done}
        other.held = [{stamp: True for stamp in held} for held in self.held]
        other.sent = {number: self.sent[number] for number in self.sent}
        other.number = self.number
        return other
