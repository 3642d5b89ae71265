"""Point [23] and section hands.py."""

import itertools
import random

from sharedscopes.books import Book
from sharedscopes.errors import NoBody, NoHand, NoPacket, NoStamps, NothingBack, TooMany
from sharedscopes.fates import fates_of
from sharedscopes.hands import Hands
from sharedscopes.states import State
from sharedscopes.writing import text_of
from tests.crowds import make, random_doings
from tests.samples import NOTHING, ROOT, STRANGE, Case, Likeness


class Trouble(Exception):
    """What a guest may raise."""


def trio():
    """Three hands: hand 0 has made a block and a number in it, hand 1 has the block only, hand 2 the number only."""
    hands = Hands(3)
    hands.do(0, make("block"))
    hands.ask(1, 0)
    hands.do(0, make("number", (1, 0), 0, 5))
    hands.take(hands.send(0, 2, [(2, 0)]))
    return hands


def picture(hands):
    """All that hands tell of themselves."""
    rows = [(hands.kept(hand), hands.waiting(hand), hands.lacking(hand), hands.shown(hand).deeds(), hands.branch(hand))
            for hand in range(hands.many)]
    return repr((hands.many, rows, hands.packets(), hands.everything().deeds()))


class MakingTest(Case):
    def test_two_to_four_hands(self):
        for count in (2, 3, 4):
            hands = Hands(count)
            self.tells(count, hands.many)
            for hand in range(count):
                self.tells(([], [], [], [], NOTHING), (hands.kept(hand), hands.waiting(hand), hands.lacking(hand),
                                                       hands.shown(hand).listed(), hands.branch(hand)))
            self.refused(NoHand, count, hands.kept, count)
            self.tells(([], []), (hands.packets(), hands.everything().listed()))
        self.tells(2, Hands(count=2).many)

    def test_one_and_five(self):
        for value in (1, 5, 0, -2, 2.0, "2", *STRANGE):
            self.refused(NoHand, value, Hands, value)

    def test_many_is_not_set(self):
        with self.assertRaises(AttributeError):
            Hands(2).many = 3


class DoTest(Case):
    def test_stamps_and_seen(self):
        hands = Hands(2)
        self.tells((1, 0), hands.do(0, make("block")))
        self.tells((1, 1), hands.do(1, make("block")))
        self.tells((2, 0), hands.do(hand=0, body=make("number", (1, 0), 3, 7)))
        self.tells([(1, 1)], hands.ask(0, 1))
        self.tells((3, 0), hands.do(0, ("drop", (1, 1))))
        self.tells([((1, 0), NOTHING, make("block")), ((1, 1), NOTHING, make("block")),
                    ((2, 0), (1, 0, 0, 0), make("number", (1, 0), 3, 7)), ((3, 0), (2, 1, 0, 0), ("drop", (1, 1)))],
                   hands.shown(0).deeds())

    def test_the_time_is_above_all_that_is_shown(self):
        hands = Hands(2)
        for _ in range(4):
            hands.do(0, make("block"))
        hands.ask(1, 0)
        self.tells((5, 1), hands.do(1, make("block")))
        self.tells((4, 0, 0, 0), hands.shown(1)[(5, 1)][1])

    def test_the_time_does_not_hang_on_what_waits(self):
        hands = trio()
        self.tells((1, 2), hands.do(2, make("block")))
        self.tells([(1, 2)], hands.shown(2).listed())

    def test_bodies_that_name_what_is_not_shown(self):
        hands = trio()
        for body in (("set", (2, 0), 6), ("drop", (1, 0)), ("move", (2, 0), ROOT, 0), make("use", ROOT, 0, (2, 0)), ("undo", (2, 0)),
                     make("block", (1, 0)), ("drop", (9, 3)), ("point", ROOT, (2, 0))):
            # What is kept and not shown is not there yet.
            self.refused(NoBody, body, hands.do, 2, body)
        self.refused(NoBody, ("set", (2, 0), 6), hands.do, 1, ("set", (2, 0), 6))
        hands.ask(2, 0)
        self.tells((3, 2), hands.do(2, ("set", (2, 0), 6)))

    def test_wrong_values(self):
        hands = Hands(2)
        hands.do(0, make("block"))
        before = picture(hands)
        for value in (*STRANGE, 2, 3):
            if value not in (0, 1) or isinstance(value, (bool, float, Likeness)):
                self.refused(NoHand, value, hands.do, value, None)
                for call in (hands.back, hands.again, hands.kept, hands.waiting, hands.lacking, hands.shown, hands.branch):
                    self.refused(NoHand, value, call, value)
                self.refused(NoHand, value, hands.send, value, None, 5)
                self.refused(NoHand, value, hands.send, 0, value, 5)
                self.refused(NoHand, value, hands.ask, value, None)
                self.refused(NoHand, value, hands.ask, 0, value)
        for value in (*STRANGE, ["drop", (1, 0)], ("drop", [1, 0]), ("drop", (1, False)), ("make", "block", ROOT, 1000, None),
                      ("drop", Likeness()), ("undo", ROOT), ("set", (1, 0), True)):
            self.refused(NoBody, value, hands.do, 0, value)
        self.tells(before, picture(hands))

    def test_sixty_deeds_of_all_hands(self):
        hands = Hands(4)
        for turn in range(58):
            hands.do(turn % 4, make("block"))
        hands.back(3)
        hands.again(3)
        self.tells(60, len(hands.everything()))
        before = picture(hands)
        for hand in range(4):
            self.refused(TooMany, 60, hands.do, hand, make("block"))
            self.refused(TooMany, 60, hands.back, hand)
        self.refused(NoBody, ("drop", (9, 9)), hands.do, 0, ("drop", (9, 9)))
        self.refused(NothingBack, "redo", hands.again, 0)
        self.tells(before, picture(hands))
        hands.ask(0, 1)
        self.refused(TooMany, 60, hands.do, 0, make("block"))

    def test_late_times(self):
        """Sixty deeds one behind the other have times up to 60: no time is above 999."""
        hands = Hands(2)
        for turn in range(60):
            hands.ask(turn % 2, 1 - turn % 2)
            self.tells((turn + 1, turn % 2), hands.do(turn % 2, make("block")))


class BackTest(Case):
    def test_back_and_again(self):
        hands = Hands(2)
        for value in (1, 2):
            hands.do(0, make("number", ROOT, 0, value))
        self.tells((3, 0), hands.back(0))
        self.tells(("undo", (2, 0)), hands.shown(0)[(3, 0)][2])
        self.tells((4, 0), hands.back(hand=0))
        self.tells(("undo", (1, 0)), hands.shown(0)[(4, 0)][2])
        self.tells((5, 0), hands.again(0))
        self.tells(("redo", (1, 0)), hands.shown(0)[(5, 0)][2])
        self.tells((6, 0), hands.again(hand=0))
        self.tells(("redo", (2, 0)), hands.shown(0)[(6, 0)][2])
        self.refused(NothingBack, "redo", hands.again, 0)
        self.tells("1 2", text_of(State(hands.shown(0))))

    def test_nothing_to_go_back_on(self):
        hands = Hands(2)
        hands.do(0, make("block"))
        hands.ask(1, 0)
        # Hand 1 has nothing of its own.
        self.refused(NothingBack, "undo", hands.back, 1)
        self.refused(NothingBack, "redo", hands.again, 1)
        self.refused(NothingBack, "redo", hands.again, 0)
        hands.back(0)
        self.refused(NothingBack, "undo", hands.back, 0)
        self.tells([(1, 0), (2, 0)], hands.kept(0))

    def test_a_new_deed_ends_what_can_be_done_again(self):
        hands = Hands(2)
        hands.do(0, make("block"))
        hands.back(0)
        hands.do(0, make("block"))
        self.refused(NothingBack, "redo", hands.again, 0)


class SendTest(Case):
    def test_packets(self):
        hands = trio()
        self.tells([(0, 0, 2, ((2, 0),))], hands.packets())
        self.tells(1, hands.send(0, 1))
        self.tells(2, hands.send(1, 2, ((1, 0),)))
        self.tells(3, hands.send(sender=0, taker=1, stamps=[(2, 0), (1, 0)]))
        self.tells([(0, 0, 2, ((2, 0),)), (1, 0, 1, ((1, 0), (2, 0))), (2, 1, 2, ((1, 0),)), (3, 0, 1, ((1, 0), (2, 0)))], hands.packets())

    def test_taken_and_lost(self):
        hands = trio()
        self.tells(None, hands.take(hands.send(0, 1)))
        self.tells([(1, 0), (2, 0)], hands.kept(1))
        # It lies on the way until it is lost, and may be taken twice.
        hands.take(1)
        hands.take(packet=1)
        self.tells([(1, 0), (2, 0)], hands.kept(1))
        self.tells(None, hands.lose(1))
        self.tells([(0, 0, 2, ((2, 0),))], hands.packets())
        for call in (hands.take, hands.lose):
            self.refused(NoPacket, 1, call, 1)
        hands.lose(packet=0)
        self.tells([], hands.packets())
        # Numbers are not given again.
        self.tells(2, hands.send(0, 1))

    def test_a_packet_has_what_was_kept_then(self):
        hands = Hands(2)
        hands.do(0, make("block"))
        number = hands.send(0, 1)
        hands.do(0, make("block"))
        hands.take(number)
        self.tells([(1, 0)], hands.kept(1))

    def test_packets_of_no_deeds(self):
        hands = Hands(2)
        self.tells(0, hands.send(0, 1))
        self.tells(1, hands.send(0, 1, ()))
        self.tells([(0, 0, 1, ()), (1, 0, 1, ())], hands.packets())
        hands.take(0)
        self.tells([], hands.kept(1))

    def test_to_the_same_hand(self):
        hands = trio()
        for hand in range(3):
            self.refused(NoHand, hand, hands.send, hand, hand, 5)
            self.refused(NoHand, hand, hands.ask, hand, hand)

    def test_what_waits_can_be_sent(self):
        hands = trio()
        hands.take(hands.send(2, 1))
        self.tells([(1, 0), (2, 0)], hands.shown(1).listed())

    def test_wrong_stamps(self):
        hands = trio()
        self.refuses_rows(NoStamps, lambda stamps: hands.send(0, 1, stamps) if stamps is not None else hands.send(0, 1, 0),
                          [(1, 0), (2, 0)])
        self.refused(NoStamps, 0, hands.send, 1, 0, [(2, 0)])
        self.refused(NoStamps, 1, hands.send, 0, 1, [(1, 0), (3, 0), (1, 0)])
        self.tells([(0, 0, 2, ((2, 0),))], hands.packets())
        self.tells(1, hands.send(0, 1))

    def test_wrong_packets(self):
        hands = trio()
        before = picture(hands)
        for value in (1, -1, *STRANGE):
            if value != 0 or isinstance(value, (bool, float, Likeness)):
                self.refused(NoPacket, value, hands.take, value)
                self.refused(NoPacket, value, hands.lose, value)
        self.tells(before, picture(hands))


class WaitTest(Case):
    def test_deeds_that_wait(self):
        hands = trio()
        self.tells(([(2, 0)], [(2, 0)], [(1, 0)], []), (hands.kept(2), hands.waiting(2), hands.lacking(2), hands.shown(2).listed()))
        self.tells(NOTHING, hands.branch(hand=2))
        hands.take(hands.send(0, 2, [(1, 0)]))
        self.tells(([(1, 0), (2, 0)], [], [], [(1, 0), (2, 0)]),
                   (hands.kept(hand=2), hands.waiting(hand=2), hands.lacking(hand=2), hands.shown(hand=2).listed()))
        self.tells((2, 0, 0, 0), hands.branch(2))

    def test_lacking_are_only_those_that_are_not_kept(self):
        hands = Hands(2)
        for _ in range(4):
            hands.do(0, make("block"))
        hands.take(hands.send(0, 1, [(3, 0), (4, 0)]))
        # The deed (4, 0) has seen (3, 0), which is kept; that has seen (2, 0), which is not.
        self.tells(([(3, 0), (4, 0)], [(2, 0)]), (hands.waiting(1), hands.lacking(1)))
        hands.take(hands.send(0, 1, [(2, 0)]))
        self.tells(([(2, 0), (3, 0), (4, 0)], [(1, 0)]), (hands.waiting(1), hands.lacking(1)))

    def test_lacking_deeds_of_several_hands(self):
        hands = Hands(3)
        hands.do(1, make("block"))
        hands.do(2, make("block"))
        hands.ask(0, 1)
        hands.ask(0, 2)
        hands.do(0, make("block"))
        hands.take(hands.send(0, 1, [(2, 0)]))
        self.tells(([(2, 0)], [(1, 2)]), (hands.waiting(1), hands.lacking(1)))
        hands.take(hands.send(0, 2, [(2, 0)]))
        self.tells([(1, 1)], hands.lacking(2))

    def test_deeds_that_come_twice(self):
        hands = trio()
        hands.take(0)
        hands.take(hands.send(0, 2))
        self.tells([(1, 0), (2, 0)], hands.kept(2))
        self.tells([], hands.ask(2, 0))


class AskTest(Case):
    def test_what_is_shown_comes(self):
        hands = trio()
        self.tells([(2, 0)], hands.ask(1, 0))
        self.tells([(1, 0)], hands.ask(taker=2, sender=0))
        self.tells([], hands.ask(1, 0))
        self.tells([(0, 0, 2, ((2, 0),))], hands.packets())

    def test_what_waits_does_not_come(self):
        hands = trio()
        self.tells([], hands.ask(1, 2))
        self.tells([(1, 0)], hands.kept(1))

    def test_ascending(self):
        hands = Hands(3)
        for hand in (2, 1, 1, 2):
            hands.do(hand, make("block"))
        hands.ask(1, 2)
        self.tells([(1, 1), (1, 2), (2, 1), (2, 2)], hands.ask(0, 1))

    def test_everything(self):
        hands = trio()
        hands.do(2, make("block"))
        self.tells([(1, 0), (1, 2), (2, 0)], hands.everything().listed())
        self.assertIsInstance(hands.everything(), Book)


class CopyTest(Case):
    def test_spoilt_lists(self):
        hands = trio()
        hands.send(0, 1)
        before = picture(hands)
        for rows in (hands.packets(), hands.kept(0), hands.waiting(2), hands.lacking(2), hands.shown(0).deeds(), hands.everything().listed()):
            rows.clear()
        came = hands.twin().ask(1, 0)
        came.clear()
        self.tells(before, picture(hands))

    def test_spoilt_stamps(self):
        hands = trio()
        stamps = [(2, 0), (1, 0)]
        hands.send(0, 1, stamps)
        self.tells([(2, 0), (1, 0)], stamps)
        stamps.clear()
        self.tells((1, 0, 1, ((1, 0), (2, 0))), hands.packets()[1])


class TrialTest(Case):
    def test_what_is_done_is_taken_back(self):
        hands = trio()
        before, twin = picture(hands), hands.twin()
        with hands.trial() as same:
            self.assertIs(hands, same)
            hands.do(0, make("block"))
            hands.take(hands.send(0, 1))
            hands.lose(0)
            hands.ask(2, 0)
            self.assertNotEqual(before, picture(hands))
        self.tells(before, picture(hands))
        self.assertTrue(hands == twin)
        self.tells(1, hands.send(0, 1))

    def test_kept_trials(self):
        hands = trio()
        trial = hands.trial()
        with trial as same:
            same.do(0, make("block"))
            self.tells(None, trial.keep())
            same.do(0, make("block"))
        self.tells([(1, 0), (2, 0), (3, 0), (4, 0)], hands.kept(0))

    def test_trials_left_by_an_error(self):
        hands = trio()
        before = picture(hands)
        with self.assertRaises(Trouble):
            with hands.trial():
                hands.do(0, make("block"))
                raise Trouble
        self.tells(before, picture(hands))
        with self.assertRaises(NoBody):
            with hands.trial():
                hands.do(0, make("block"))
                hands.do(0, None)
        self.tells(before, picture(hands))

    def test_keep_and_then_an_error(self):
        hands = trio()
        before = picture(hands)
        trial = hands.trial()
        with self.assertRaises(Trouble):
            with trial:
                hands.do(0, make("block"))
                trial.keep()
                raise Trouble
        self.tells(before, picture(hands))

    def test_keep_ahead_of_the_block(self):
        hands = trio()
        before = picture(hands)
        trial = hands.trial()
        trial.keep()
        with trial:
            hands.do(0, make("block"))
        self.tells(before, picture(hands))

    def test_done_between_the_call_and_the_block(self):
        hands = trio()
        trial = hands.trial()
        hands.do(0, make("block"))
        with trial:
            hands.do(0, make("block"))
        self.tells([(1, 0), (2, 0), (3, 0)], hands.kept(0))

    def test_an_error_caught_within(self):
        hands = trio()
        trial = hands.trial()
        with trial:
            hands.do(0, make("block"))
            self.refused(NoBody, None, hands.do, 0, None)
            trial.keep()
        self.tells([(1, 0), (2, 0), (3, 0)], hands.kept(0))

    def test_trials_within_trials(self):
        for keeps in itertools.product((True, False), repeat=2):
            hands = trio()
            outer = hands.trial()
            with outer:
                hands.do(0, make("block"))
                inner = hands.trial()
                with inner:
                    hands.do(0, make("sum"))
                    if keeps[1]:
                        inner.keep()
                self.tells(3 + keeps[1], len(hands.kept(0)))
                hands.do(0, make("product"))
                if keeps[0]:
                    outer.keep()
            self.tells(2 + (2 + keeps[1]) * keeps[0], len(hands.kept(0)))

    def test_an_error_in_the_inner_one(self):
        hands = trio()
        outer = hands.trial()
        with outer:
            hands.do(0, make("block"))
            try:
                with hands.trial():
                    hands.do(0, make("block"))
                    raise Trouble
            except Trouble:
                outer.keep()
        self.tells([(1, 0), (2, 0), (3, 0)], hands.kept(0))

    def test_two_trials_of_which_one_is_done(self):
        hands = trio()
        for _ in range(3):
            with hands.trial():
                self.tells((3, 0), hands.do(0, make("block")))


class TryingTest(Case):
    def guest(self, hands):
        hands.do(0, make("block"))
        return ("told", len(hands.kept(0)))

    def test_guests(self):
        hands = trio()
        before = picture(hands)
        self.tells(("told", 3), hands.trying(self.guest))
        self.tells(before, picture(hands))
        self.tells(("told", 3), hands.trying(guest=self.guest, kept=False))
        self.tells(before, picture(hands))
        self.tells(("told", 3), hands.trying(self.guest, kept=True))
        self.tells([(1, 0), (2, 0), (3, 0)], hands.kept(0))

    def test_only_true_keeps(self):
        hands = trio()
        before = picture(hands)
        for value in (1, 0, None, "yes", [1], 1.0):
            hands.trying(self.guest, kept=value)
            self.tells(before, picture(hands))
        with self.assertRaises(TypeError):
            hands.trying(self.guest, True)

    def test_the_guest_gets_the_hands_themselves(self):
        hands = trio()
        self.assertIs(hands, hands.trying(lambda given: given))
        self.tells(None, hands.trying(lambda given: None))

    def test_guests_that_raise(self):
        hands = trio()
        before = picture(hands)

        def guest(given):
            given.do(0, make("block"))
            raise Trouble

        for kept in (True, False):
            with self.assertRaises(Trouble):
                hands.trying(guest, kept=kept)
            self.tells(before, picture(hands))
        with self.assertRaises(TypeError):
            hands.trying(None)
        self.tells(before, picture(hands))

    def test_guests_within_guests(self):
        hands = trio()

        def guest(given):
            given.do(0, make("block"))
            inner = given.trying(self.guest, kept=True)
            return (inner, len(given.kept(0)))

        self.tells((("told", 4), 4), hands.trying(guest))
        self.tells(2, len(hands.kept(0)))
        self.tells((("told", 4), 4), hands.trying(guest, kept=True))
        self.tells(4, len(hands.kept(0)))


class TwinTest(Case):
    def test_twins_go_on_apart(self):
        hands = trio()
        twin = hands.twin()
        self.assertIsNot(hands, twin)
        self.assertIsInstance(twin, Hands)
        self.assertTrue(hands == twin)
        before = picture(hands)
        twin.do(0, make("block"))
        twin.take(twin.send(0, 1))
        twin.lose(0)
        self.tells(before, picture(hands))
        self.assertFalse(hands == twin)
        hands.do(0, make("block"))
        self.assertFalse(hands == twin)
        hands.take(hands.send(0, 1))
        hands.lose(0)
        self.assertTrue(hands == twin)

    def test_a_twin_within_a_trial(self):
        hands = trio()
        with hands.trial():
            hands.do(0, make("block"))
            twin = hands.twin()
        self.tells(3, len(twin.kept(0)))
        self.tells(2, len(hands.kept(0)))

    def test_equal(self):
        self.assertTrue(Hands(2) == Hands(2))
        self.assertFalse(Hands(2) == Hands(3))
        self.assertTrue(trio() == trio())
        self.assertTrue(trio() != Hands(3))
        for value in (*STRANGE, Book(), None):
            if not isinstance(value, Likeness):
                self.assertFalse(Hands(2) == value)
        one, other = trio(), trio()
        one.send(0, 1)
        self.assertFalse(one == other)
        one.lose(1)
        # The number of the next packet is another one.
        self.assertFalse(one == other)
        other.lose(other.send(1, 0))
        self.assertTrue(one == other)
        one.ask(2, 0)
        self.assertFalse(one == other)
        other.take(other.send(0, 2))
        one.send(0, 2)
        self.assertTrue(one == other)
        one.do(0, make("block"))
        other.do(0, make("sum"))
        self.assertFalse(one == other)

    def test_equal_packets(self):
        for packets in itertools.permutations([(0, 1, [(1, 0)]), (0, 2, [(1, 0)]), (0, 1, [(2, 0)]), (1, 0, [(1, 0)])], 2):
            one, other = trio(), trio()
            one.send(*packets[0])
            other.send(*packets[1])
            self.assertFalse(one == other)
            one.send(*packets[1])
            other.send(*packets[0])
            self.assertFalse(one == other)
            for hands in (one, other):
                hands.lose(1)
                hands.lose(2)
            self.assertTrue(one == other)

    def test_packets_by_numbers_behind_trials(self):
        hands = trio()
        hands.send(0, 1)
        with hands.trial():
            hands.lose(0)
            hands.send(1, 0)
        hands.send(0, 2)
        self.tells([0, 1, 2], [row[0] for row in hands.twin().packets()])


class ExampleTest(Case):
    def test_the_example(self):
        hands = Hands(2)
        made = hands.do(0, ("make", "let", (0, 0), 1, "x"))
        hands.ask(1, 0)
        done = [hands.do(0, ("wish", made, "y")), hands.do(1, ("wish", made, "z"))]
        more = hands.ask(0, 1)
        self.tells(([(2, 0), (2, 1)], [(2, 1)], "(z =)"), (done, more, text_of(State(hands.shown(0)))))
        self.tells({(1, 0): ("stands", None), (2, 0): ("overruled", (2, 1)), (2, 1): ("stands", None)}, fates_of(hands.shown(0)))


class RandomTest(Case):
    def follow(self, hands, doing):
        """Do it with the package, and tell what is returned, or the name of the error."""
        word, *rest = doing
        try:
            return getattr(hands, word)(*rest)
        except (NothingBack, NoPacket) as error:
            return error.__class__.__name__

    def compare(self, crowd, hands):
        for hand in range(crowd.count):
            self.tells(sorted(crowd.kept[hand]), hands.kept(hand))
            self.tells(crowd.waiting(hand), hands.waiting(hand))
            self.tells(crowd.lacking(hand), hands.lacking(hand))
            self.tells(list(crowd.shown(hand).values()), hands.shown(hand).deeds())
            self.tells(crowd.branch(hand), hands.branch(hand))
        self.tells(sorted(crowd.packets.values()), hands.packets())
        self.tells([deed for _, deed in sorted(crowd.all().items())], hands.everything().deeds())

    def test_as_the_document_says(self):
        seen = {}
        for seed in range(60):
            crowd, row = random_doings(seed, 90)
            hands = Hands(crowd.count)
            for doing, told in row:
                got = self.follow(hands, doing)
                self.tells(told, got)
                seen[doing[0]] = seen.get(doing[0], 0) + (not isinstance(got, str))
            self.compare(crowd, hands)
        self.assertTrue(min(seen.values()) > 30, seen)

    def test_along_the_way(self):
        waited = 0
        for seed in range(100, 112):
            crowd, row = random_doings(seed, 60)
            hands = Hands(crowd.count)
            pictures = [picture(hands)]
            for doing, _ in row:
                before = picture(hands)
                told = self.follow(hands, doing)
                if isinstance(told, str):
                    self.tells(before, picture(hands))
                pictures.append(picture(hands))
                waited += any(hands.waiting(hand) for hand in range(crowd.count))
                # What is shown is a book, and a branch of everything.
                for hand in range(crowd.count):
                    self.assertTrue(all(stamp in hands.everything() for stamp in hands.shown(hand)))
        self.assertGreater(waited, 20)

    def test_all_hands_show_the_same_in_the_end(self):
        for seed in range(25):
            crowd, row = random_doings(seed, 60)
            ends = set()
            for turn in range(3):
                rng = random.Random(f"{seed} {turn}")
                hands = Hands(crowd.count)
                for doing, _ in row:
                    self.follow(hands, doing)
                # Each deed comes in a packet of its own, in whatever order, some twice.
                packets = [hands.send(stamp[1], hand, [stamp]) for stamp in hands.everything()
                           for hand in range(hands.many) if hand != stamp[1]]
                packets += rng.sample(packets, len(packets) // 3)
                rng.shuffle(packets)
                for packet in packets:
                    hands.take(packet)
                for hand in range(hands.many):
                    self.tells(hands.everything().deeds(), hands.shown(hand).deeds())
                    self.tells(([], []), (hands.waiting(hand), hands.lacking(hand)))
                    ends.add(repr((hands.shown(hand).deeds(), text_of(State(hands.shown(hand))), fates_of(hands.shown(hand)))))
            self.assertEqual(1, len(ends))

    def test_trials_at_any_time(self):
        for seed in range(20):
            crowd, row = random_doings(seed, 40)
            rng = random.Random(seed)
            hands, plain = Hands(crowd.count), Hands(crowd.count)
            at = 0
            while at < len(row):
                to = at + rng.randint(1, 6)
                before = picture(hands)

                def guest(given):
                    return [self.follow(given, doing) for doing, _ in row[at:to]]

                first = hands.trying(guest)
                self.tells(before, picture(hands))
                self.tells(first, hands.trying(guest, kept=True))
                self.tells(first, guest(plain))
                self.assertTrue(hands == plain)
                self.assertTrue(hands == hands.twin())
                at = to
