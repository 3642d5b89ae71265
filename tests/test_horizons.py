"""Point [24] and section horizons.py."""

import itertools
import random

from sharedscopes.books import Book
from sharedscopes.branches import all_branches, all_of, is_branch
from sharedscopes.errors import NoBook, NoBranches, NoHand, NoHands
from sharedscopes.fates import fates_of
from sharedscopes.hands import Hands
from sharedscopes.horizons import accepts_messages, certain_deeds, fewest_messages, horizon_of
from sharedscopes.marks import alive_deeds
from tests.crowds import do_in_crowd, make, random_doing, random_doings
from tests.model import Model
from tests.samples import NOTHING, ROOT, STRANGE, Case, Likeness, deed, random_deeds

# One deed of each hand, apart.
FOUR = Book([deed(1, hand, NOTHING, "make", "block", ROOT, 0, None) for hand in range(4)])
ONES = [tuple(int(hand == one) for hand in range(4)) for one in range(4)]


class HorizonTest(Case):
    def test_hands_without_deeds(self):
        hands = Hands(2)
        self.tells((0, []), (horizon_of(hands, 0), certain_deeds(hands, 0)))
        hands.do(0, make("block"))
        self.tells((0, []), (horizon_of(hands, 0), certain_deeds(hands, 0)))
        hands.do(1, make("block"))
        # Hand 0 does not show it yet.
        self.tells((0, []), (horizon_of(hands, 0), certain_deeds(hands, 0)))

    def test_the_least_of_the_last_times(self):
        hands = Hands(2)
        for _ in range(3):
            hands.do(0, make("block"))
        hands.do(1, make("block"))
        hands.ask(0, 1)
        self.tells(1, horizon_of(hands, 0))
        self.tells(0, horizon_of(hands, 1))
        # The deed of hand 1 has seen none of those of hand 0.
        self.tells([], certain_deeds(hands, 0))
        hands.ask(1, 0)
        hands.do(1, make("block"))
        hands.ask(0, 1)
        self.tells(3, horizon_of(hands=hands, hand=0))
        self.tells([(1, 0), (2, 0), (3, 0)], certain_deeds(hands=hands, hand=0))
        hands.do(0, make("block"))
        self.tells(4, horizon_of(hands, 0))
        self.tells([(1, 0), (1, 1), (2, 0), (3, 0), (4, 1)], certain_deeds(hands, 0))

    def test_only_the_hands_that_there_are(self):
        for count in (2, 3, 4):
            hands = Hands(count)
            for hand in range(count):
                hands.do(hand, make("block"))
                for other in range(count):
                    if other != hand:
                        hands.ask(other, hand)
            self.tells(1, horizon_of(hands, 0))
            self.tells([(1, 0)], certain_deeds(hands, 0))

    def test_what_waits_does_not_count(self):
        hands = Hands(2)
        hands.do(0, make("block"))
        hands.do(0, make("block"))
        hands.do(1, make("block"))
        hands.take(hands.send(0, 1, [(2, 0)]))
        self.tells((0, []), (horizon_of(hands, 1), certain_deeds(hands, 1)))
        hands.take(hands.send(0, 1, [(1, 0)]))
        self.tells((1, []), (horizon_of(hands, 1), certain_deeds(hands, 1)))

    def test_wrong_values(self):
        hands = Hands(3)
        for call in (horizon_of, certain_deeds):
            for value in (*STRANGE, Hands, Book(), 3):
                self.refused(NoHands, value, call, value, None)
            for value in (*STRANGE, 3):
                if value not in (0, 1) or isinstance(value, (bool, float, Likeness)):
                    self.refused(NoHand, value, call, hands, value)
            call(hands, 2)

    def test_as_the_document_says(self):
        found = [0, 0]
        for seed in range(60):
            crowd, row = random_doings(seed, 70)
            hands = Hands(crowd.count)
            for doing, told in row:
                if not isinstance(told, str):
                    getattr(hands, doing[0])(*doing[1:])
            for hand in range(crowd.count):
                shown = crowd.shown(hand)
                lasts = [max([stamp for stamp in shown if stamp[1] == other], default=None) for other in range(crowd.count)]
                self.tells(min(last[0] if last else 0 for last in lasts), horizon_of(hands, hand))
                model = Model(list(shown.values()))
                certain = [] if None in lasts else [
                    stamp for stamp in shown if all(last == stamp or model.saw(last, stamp) for last in lasts)]
                self.tells(certain, certain_deeds(hands, hand))
                found[0] += horizon_of(hands, hand) > 0
                found[1] += len(certain) > 0
        self.assertTrue(min(found) > 20, found)

    def test_what_is_shown_later(self):
        """What is shown anew has greater times than the horizon, and has seen what is certain."""
        later = overruled = 0
        for seed in range(40):
            rng = random.Random(f"later {seed}")
            crowd, row = random_doings(seed, 40)
            hands = Hands(crowd.count)
            for doing, told in row:
                if not isinstance(told, str):
                    getattr(hands, doing[0])(*doing[1:])
            told = [(horizon_of(hands, hand), certain_deeds(hands, hand), hands.shown(hand)) for hand in range(crowd.count)]
            for _ in range(40):
                doing = random_doing(rng, crowd)
                if not isinstance(do_in_crowd(crowd, doing), str):
                    getattr(hands, doing[0])(*doing[1:])
            for hand, (horizon, certain, before) in enumerate(told):
                now = hands.shown(hand)
                for stamp in [stamp for stamp in now if stamp not in before]:
                    later += 1
                    self.assertGreater(stamp[0], horizon)
                    self.assertTrue(all(one[0] <= now[stamp][1][one[1]] for one in certain))
                if horizon:
                    for one in certain:
                        fate = fates_of(now).get(one)
                        if fate and fate[0] == "overruled" and fate[1] not in before:
                            overruled += 1
        self.assertGreater(later, 200)
        self.assertEqual(0, overruled)


class MessagesTest(Case):
    def test_two_hands(self):
        self.tells([(0, 1), (1, 0)], fewest_messages(FOUR, ONES[:2]))
        self.tells([(0, 1)], fewest_messages(FOUR, [(1, 1, 0, 0), (0, 1, 0, 0)]))
        self.tells([(1, 0)], fewest_messages(book=FOUR, branches=((1, 0, 0, 0), (1, 1, 0, 0))))

    def test_branches_that_are_equal(self):
        for many in (2, 3, 4):
            self.tells([], fewest_messages(FOUR, [(1, 1, 0, 0)] * many))
        self.tells([], fewest_messages(Book(), [NOTHING, NOTHING]))
        self.tells([(0, 1), (1, 0)], fewest_messages(FOUR, [ONES[0], ONES[1]]))
        self.tells([(0, 2), (2, 0), (0, 1)], fewest_messages(FOUR, [ONES[0], ONES[0], ONES[1]]))

    def test_three_and_four_hands(self):
        self.tells([(0, 1), (1, 2), (2, 0), (0, 1)], fewest_messages(FOUR, ONES[:3]))
        self.tells([(0, 1), (1, 2), (2, 3), (3, 0), (0, 1), (0, 2)], fewest_messages(FOUR, tuple(ONES)))
        self.tells([(3, 0), (0, 1), (0, 2)], fewest_messages(FOUR, [*ONES[:3], (1, 1, 1, 1)]))

    def test_accepted_lists(self):
        for value in ([(0, 1), (1, 0)], [(1, 0), (0, 1)]):
            self.assertIs(True, accepts_messages(FOUR, ONES[:2], value))
        self.assertIs(True, accepts_messages(book=FOUR, branches=ONES[:3], value=[(2, 1), (1, 0), (0, 2), (0, 1)]))
        self.assertIs(True, accepts_messages(FOUR, [ONES[0]] * 4, []))

    def test_bent_lists(self):
        for value in ([], [(0, 1)], [(0, 1), (0, 1)], [(0, 1), (1, 0), (0, 1)], ((0, 1), (1, 0)), [(0, 1), [1, 0]], [(0, 1), (1, 1)],
                      [(0, 1), (1, 0, 0)], [(0, 1), (1, 2)], [(0, 1), (-1, 0)], [(0, True), (1, 0)], [(False, 1), (1, 0)], None, "ab",
                      [(2, 0), (0, 1)], [(0, -1), (1, 0)], [(1, 0), (0, -1)], [(0, 1), (2, 0)], [(-1, 0), (0, 1)], [(0, 1), (-2, 0)], [(0, 2), (1, 0)], [(0, 1), (1.0, 0)], [(0, 1), None], [(0, 1), Likeness()], [Likeness()] * 2, {(0, 1): 1, (1, 0): 1}, Likeness(),
                      [(0, 0), (0, 1), (1, 0)], [(0, 1), (1, None)], [0, 1]):
            self.assertIs(False, accepts_messages(FOUR, ONES[:2], value), value)
        for value in STRANGE:
            self.assertIs(False, accepts_messages(FOUR, ONES[:2], value), value)
            if value != [] or isinstance(value, Likeness):
                self.assertIs(False, accepts_messages(FOUR, [ONES[0]] * 2, value), value)
        # More than the fewest, and a message to oneself.
        self.assertIs(False, accepts_messages(FOUR, [ONES[0]] * 2, [(0, 1)]))
        self.assertIs(False, accepts_messages(FOUR, [(1, 1, 0, 0), (0, 1, 0, 0)], [(0, 0)]))
        self.assertIs(False, accepts_messages(FOUR, [(1, 1, 0, 0), (0, 1, 0, 0)], [(0, 1), (1, 0)]))

    def test_wrong_values(self):
        calls = [fewest_messages, lambda book, branches: accepts_messages(book, branches, None)]
        for call in calls:
            for value in (*STRANGE, Hands(2), FOUR.deeds()):
                self.refused(NoBook, value, call, value, None)
            # One branch and five branches.
            for value in ([], [NOTHING], [NOTHING] * 5, (NOTHING,), (NOTHING,) * 5, {NOTHING: NOTHING}, None, "ab", 2, iter(ONES)):
                self.refused(NoBranches, None, call, FOUR, value)
            for value in STRANGE:
                if not isinstance(value, (list, tuple)) or len(value) not in (2, 3):
                    self.refused(NoBranches, None, call, FOUR, value)
            for value in (*STRANGE, [0, 0, 0, 0], (2, 0, 0, 0), (0, 0, 0), (0, 0, 0, 0, 0), (False, 0, 0, 0), (0, 0, 0, 1.0), (True, 1, 1, 1)):
                self.refused(NoBranches, 0, call, FOUR, [value, None])
                self.refused(NoBranches, 2, call, FOUR, (NOTHING, ONES[0], value))
        chain = Book([deed(1, 0, NOTHING, "make", "block", ROOT, 0, None), deed(2, 1, 1, "make", "block", ROOT, 0, None)])
        self.refused(NoBranches, 1, fewest_messages, chain, [(1, 0, 0, 0), (0, 2, 0, 0)])

    def test_what_is_handed_in_stays(self):
        branches, value = list(ONES), [(0, 1), (1, 0)]
        fewest_messages(FOUR, branches).clear()
        accepts_messages(FOUR, branches[:2], value)
        self.tells((ONES, [(0, 1), (1, 0)]), (branches, value))

    def done(self, branches, messages):
        held = list(branches)
        for sender, taker in messages:
            held[taker] = tuple(max(pair) for pair in zip(held[sender], held[taker]))
        return held

    def is_end(self, branches, held):
        whole = tuple(max(column) for column in zip(*branches))
        return all(one == whole for one in held)

    def test_the_fewest_by_trying_all(self):
        lengths = {}
        for seed in range(60):
            rng = random.Random(seed)
            book = Book(random_deeds(f"messages {seed}", 9, hands=seed % 4 + 1, meeting=0.3))
            many = rng.choice([2, 3, 3, 4])
            branches = [rng.choice(all_branches(book)) for _ in range(many)]
            self.assertTrue(all(is_branch(book, branch) for branch in branches))
            every = list(itertools.permutations(range(many), 2))
            told = fewest_messages(book, branches)
            lengths[len(told)] = lengths.get(len(told), 0) + 1
            self.assertTrue(self.is_end(branches, self.done(branches, told)))
            self.assertIs(True, accepts_messages(book, branches, told))
            for length in range(min(len(told), 4 if many < 4 else 3) + 1):
                for messages in itertools.product(every, repeat=length):
                    if self.is_end(branches, self.done(branches, messages)):
                        self.tells(told, list(messages))
                        break
            for _ in range(30):
                tried = [rng.choice(every) for _ in told]
                self.assertIs(self.is_end(branches, self.done(branches, tried)), accepts_messages(book, branches, tried))
        self.assertTrue(len(lengths) > 4, lengths)

    def test_four_hands_by_trying_all(self):
        every = list(itertools.permutations(range(4), 2))
        for length in range(7):
            for messages in itertools.product(every, repeat=length):
                if self.is_end(ONES, self.done(ONES, messages)):
                    self.tells(fewest_messages(FOUR, ONES), list(messages))
                    return

    def test_messages_as_hands_ask_one_another(self):
        for seed in range(20):
            crowd, row = random_doings(seed, 40)
            hands = Hands(crowd.count)
            for doing, told in row:
                if not isinstance(told, str):
                    getattr(hands, doing[0])(*doing[1:])
            branches = [hands.branch(hand) for hand in range(hands.many)]
            for sender, taker in fewest_messages(hands.everything(), branches):
                hands.ask(taker, sender)
            self.assertEqual({all_of(hands.everything())}, {hands.branch(hand) for hand in range(hands.many)})
            self.assertEqual(1, len({tuple(alive_deeds(hands.shown(hand))) for hand in range(hands.many)}))
