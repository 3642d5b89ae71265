"""Point [0.2]: what holds for all books, over drawn ones; and what point [0.1] says of the whole program."""

import copy
import random

from sharedscopes.alike import alike_paper, are_always, polynomial_of
from sharedscopes.becoming import bodies_for, does_become, least_number, told_pairs
from sharedscopes.books import Book
from sharedscopes.booktexts import is_book_text, read_book, write_book
from sharedscopes.branches import all_branches, news_of, part_of
from sharedscopes.errors import HasCause, TooMany
from sharedscopes.fates import accepts_gone, fates_of, gone_paper
from sharedscopes.gappapers import accepts_gap, gap_paper
from sharedscopes.gaps import best_move, demands_of, free_runs, gaps_of, kept_at, keys_at, most_kept
from sharedscopes.hands import Hands
from sharedscopes.hangs import accepts_hanger, clean_set, hanger_paper, hangers_of
from sharedscopes.horizons import certain_deeds, fewest_messages, horizon_of
from sharedscopes.kept import accepts_most, most_paper
from sharedscopes.late import changed_rows, is_safe
from sharedscopes.marks import alive_deeds, marks_to
from sharedscopes.meets import accepts_wrong, is_right, read_as, wrong_paper
from sharedscopes.namings import fewest_names, plain_naming, told_naming
from sharedscopes.plays import accepts_play, play_of
from sharedscopes.reach import does_heal, healing_sets, reach_of
from sharedscopes.reading import made_of, read_shape
from sharedscopes.scopes import lets_in, lost_uses, scope_of, told_use, uses_of, visible_lets
from sharedscopes.slots import done_of, is_open, rivals_of, slot_of
from sharedscopes.states import State, at_branch, ends_of
from sharedscopes.useless import accepts_use, needed_lets, use_paper, useless_lets
from sharedscopes.values import accepts_none, causes_of, does_hang, none_paper, values_of
from sharedscopes.writing import are_alike, shape_of, text_by, text_of
from tests.crowds import random_doings
from tests.programs import random_book, random_text, tangled_items
from tests.samples import ROOT, Case, random_deeds


def wild_books(many, deeds=40):
    """Books of one to four hands."""
    for seed in range(many):
        yield random.Random(f"wild {seed}"), Book(random_deeds(f"promises {seed}", deeds, hands=seed % 4 + 1, meeting=0.4))


def books(many, deeds=40):
    """Those, and books of programs that are less broken."""
    yield from wild_books(many, deeds)
    for seed in range(many):
        rng = random.Random(seed)
        yield rng, random_book(f"promises {seed}", 18)
        yield rng, made_of(" ".join(tangled_items(rng, 14, [], [])))


def marks(book, stamps, word="undo"):
    """The book, its deeds of these stamps undone or done again, each by its hand."""
    for stamp in stamps:
        book = book.followed(stamp[1], [(word, stamp)])
    return book


class PromisesTest(Case):
    def test_a_the_set_of_deeds_alone(self):
        for rng, book in books(20):
            deeds = book.deeds()
            rng.shuffle(deeds)
            half = rng.choice(all_branches(book)) if len(book) < 25 else None
            again = Book(deeds)
            self.assertEqual(book, again)
            self.tells(play_of(book), play_of(again))
            self.assertEqual(State(book), State(again))
            self.tells((fates_of(book), text_of(State(book))), (fates_of(again), text_of(State(again))))
            if half is not None:
                # What one lacks may come later, in whatever order.
                grown = part_of(book, half)
                whole = tuple(book.last(hand) for hand in range(4))
                grown = grown.with_deeds([book[stamp] for stamp in news_of(book, whole, half)][::-1])
                self.assertEqual(State(book), State(grown))
            state = State(book)
            for thing in state.things():
                self.assertNotIn(thing, state.below(thing))
            self.assertIs(True, accepts_play(book, play_of(book)))
            for at, (stamp, outcome, chain) in enumerate(play_of(book)):
                for row in ((stamp, "ring" if outcome == "done" else "done", chain), (stamp, outcome, chain + ((ROOT, None),))):
                    self.assertIs(False, accepts_play(book, play_of(book)[:at] + [row] + play_of(book)[at + 1:]))

    def test_b_what_a_change_turns(self):
        safe = 0
        for rng, book in books(20, 30):
            for stamp in rng.sample(book.listed(), min(5, len(book))):
                plain, again, turned = changed_rows(book, ("out", stamp))
                ahead, behind = ({row[0]: row for row in play_of(book, without)} for without in ([], [stamp]))
                both = [one for one in ahead if one in behind]
                self.tells([one for one in both if ahead[one] != behind[one]], again)
                self.tells([(one, ahead[one][1], behind[one][1]) for one in both if ahead[one][1] != behind[one][1]], turned)
                least = min(set(ahead) ^ set(behind), default=(1000, 0))
                self.tells([one for one in both if one > least], plain)
            for stamp in [stamp for stamp in book if book[stamp][2][0] == "move" and is_safe(book, stamp)]:
                safe += 1
                for _ in range(8):
                    without = rng.sample(book.listed(), rng.randint(0, len(book)))
                    self.assertNotIn((stamp, "ring"), [row[:2] for row in play_of(book, without)])
        self.assertGreater(safe, 30)

    def test_c_fates_slots_and_undo(self):
        for rng, book in books(15, 30):
            fates = fates_of(book)
            self.tells([stamp for stamp in book if book[stamp][2][0] not in ("undo", "redo")], list(fates))
            for stamp, fate in fates.items():
                self.assertIn(fate[0], ("undone", "gone", "ring", "replaced", "overruled", "stands"))
                paper = gone_paper(book, stamp)
                self.assertEqual(fate[0] == "gone", paper is not None)
                self.assertEqual(fate[0] == "gone", accepts_gone(book, paper))
                slot = slot_of(book[stamp])
                self.assertIs(len(rivals_of(book, slot)) > 1, is_open(book, slot))
                # Of the done deeds of a slot just the last one stands.
                self.tells(done_of(book, slot)[-1:], [one for one in done_of(book, slot) if fates[one][0] == "stands"])
            alive = alive_deeds(book)
            stamps = rng.sample(alive, min(2, len(alive)))
            if len(book) + len(stamps) <= 60:
                behind = fates_of(marks(book, stamps))
                gone = [stamp for stamp in fates if stamp in alive and stamp not in stamps
                        and fates[stamp][0] != "gone" and behind[stamp][0] == "gone"]
                self.tells(gone, hangers_of(book, stamps))
                self.tells(sorted(gone + stamps), clean_set(book, stamps))
                for stamp in book:
                    paper = hanger_paper(book, stamps, stamp)
                    self.assertEqual(stamp in gone, paper is not None)
                    self.assertEqual(stamp in gone, accepts_hanger(book, stamps, paper))

    def test_c_marks_to_a_branch(self):
        for rng, book in wild_books(12, 18):
            branch = rng.choice(all_branches(book))
            again = book
            for word, stamp in marks_to(book, branch):
                again = marks(again, [stamp], word)
            self.tells(alive_deeds(part_of(book, branch)), alive_deeds(again))
            self.assertEqual(at_branch(book, branch), State(again))

    def test_d_scopes_and_gaps(self):
        moved = 0
        for rng, book in books(15):
            state = State(book)
            for use in [thing for thing in state.line() if state.kind(thing) == "use"]:
                is_visible = state.content(use) in visible_lets(state, use)
                self.assertEqual(is_visible, told_use(state, use)[0] == "bound")
                self.assertEqual(not is_visible, use in lost_uses(state))
            for let in lets_in(state):
                self.tells([thing for thing in state.line() if let in visible_lets(state, thing)], scope_of(state, let))
            for thing in rng.sample(state.things(), min(3, len(state.things()))):
                kept = [len(kept_at(state, thing, gap)) for gap in gaps_of(state, thing)]
                self.assertEqual(max(kept), most_kept(state, thing))
                paper = gap_paper(state, thing)
                self.assertIs(True, accepts_gap(state, thing, paper))
                self.assertEqual(max(kept), len(paper[2]))
                free = {(under, place) for under, first, last in free_runs(state, thing) for place in range(first, last + 1)}
                self.assertEqual({gap for gap, many in zip(gaps_of(state, thing), kept) if many == len(demands_of(state, thing))}, free)
                lost, under, key = best_move(state, thing)
                if len(book) < 60:
                    moved += 1
                    behind = State(book.followed(0, [("move", thing, under, key)]))
                    bound = [use for use in demands_of(state, thing) if told_use(behind, use)[0] == "bound"]
                    self.assertEqual(lost, len(demands_of(state, thing)) - len(bound))
                for gap in [gap for gap in gaps_of(state, thing) if keys_at(state, thing, gap) and len(book) < 60]:
                    behind = State(book.followed(0, [("move", thing, gap[0], rng.choice(keys_at(state, thing, gap)))]))
                    self.assertEqual(gap[1], behind.under(gap[0]).index(thing))
        self.assertGreater(moved, 40)

    def test_e_namings(self):
        seen = [0, 0]
        for rng, book in books(25):
            state = State(book)
            lets = lets_in(state)
            weights = {let: rng.choice([1, 2, 99]) for let in lets if rng.random() < 0.5}
            told = told_naming(state, weights)
            for naming in (told, plain_naming(state), {let: rng.choice(["x", "y", "x1"]) for let in lets}):
                uses = [use for let in lets for use in uses_of(state, let)]
                right = all(read_as(state, naming, use) == state.content(use) for use in uses)
                seen[right] += 1
                self.assertIs(right, is_right(state, naming))
                self.assertIs(not right, accepts_wrong(state, naming, wrong_paper(state, naming)))
            self.assertIs(True, is_right(state, told))
            self.assertEqual(fewest_names(state)[0], len(set(plain_naming(state).values())))
            for wish in {state.content(let) for let in lets}:
                wished = [let for let in lets if state.content(let) == wish]
                paper = most_paper(state, wished, weights)
                self.assertIs(True, accepts_most(state, wished, paper, weights))
                self.tells(sum(paper[2].values()), sum(weights.get(let, 1) for let in wished if told[let] == wish))
        self.assertGreater(min(seen), 5)

    def test_f_texts_and_becoming(self):
        for rng, book in books(20):
            state = State(book)
            for naming in (told_naming(state), plain_naming(state)):
                text = text_by(state, naming)
                self.tells(shape_of(state), read_shape(text))
                if len(state.line()) < 61:
                    self.assertIs(True, are_alike(state, State(made_of(text))))
            target = random_text(f"becoming {len(book)} {rng.random()}", 10, lost=0)
            for old, new in (("x1", "p"), ("x2", "q"), ("y99", "r")):
                target = target.replace(old, new)
            pairs = told_pairs(book, target)
            number = least_number(book, target, pairs)
            if len(book) + number <= 60:
                bodies = bodies_for(book, 1, target, pairs)
                self.assertEqual(number, len(bodies))
                self.assertIs(True, does_become(book, 1, target, pairs, bodies))
                self.tells(target, text_of(State(book.followed(1, bodies))))
                # It is the target then, and nothing is left to be done.
                self.tells(0, least_number(book.followed(1, bodies), target, told_pairs(book.followed(1, bodies), target)))

    def test_g_values_and_useless_lets(self):
        for rng, book in books(20):
            state = State(book)
            values = values_of(state)
            for let in lets_in(state)[:2]:
                if len(book) < 60:
                    self.tells(values, values_of(State(book.followed(2, [("wish", let, rng.choice(["x", "y", "zz"]))]))))
            for thing in state.line():
                self.assertEqual(values[thing] is None, bool(causes_of(state, thing)))
                self.assertEqual(values[thing] is None, accepts_none(state, thing, none_paper(state, thing)))
            needed, useless = needed_lets(state), useless_lets(state)
            self.tells(lets_in(state), sorted(needed + useless))
            for let in lets_in(state):
                self.assertIs(True, accepts_use(state, let, use_paper(state, let)))
                self.assertEqual("needed" if let in needed else "useless", use_paper(state, let)[0])
            if len(book) + len(useless) <= 60:
                behind = State(book.followed(0, [("drop", let) for let in useless]))
                self.tells({thing: values[thing] for thing in behind.line()}, values_of(behind))
                self.tells([use for use in lost_uses(state) if behind.is_in(use)], lost_uses(behind))
                self.tells(needed, needed_lets(behind))

    def test_g_alike_things(self):
        seen = [0, 0]
        for rng, book in books(20):
            state = State(book)
            good = [thing for thing in state.line() if self.has_polynomial(state, thing)]
            for _ in range(10):
                one, other = rng.choice(good + [ROOT]), rng.choice(good + [ROOT])
                if one not in good or other not in good:
                    continue
                is_alike = are_always(state, one, other)
                seen[is_alike] += 1
                numbers = [thing for thing in state.line() if state.kind(thing) == "number"]
                if is_alike:
                    contents = {number: rng.randrange(100) for number in numbers}
                else:
                    _, variables, told = alike_paper(state, one, other)
                    contents = dict(zip(variables, told))
                if len(book) + len(contents) <= 60:
                    changed = State(book.followed(3, [("set", number, content) for number, content in contents.items()]))
                    self.assertEqual(is_alike, values_of(changed)[one] == values_of(changed)[other])
                for number in numbers:
                    if any(number in variables for variables, _ in polynomial_of(state, one)):
                        self.assertIs(True, does_hang(state, one, number))
        self.assertGreater(min(seen), 20)

    def has_polynomial(self, state, thing):
        try:
            polynomial_of(state, thing)
        except (HasCause, TooMany):
            return False
        return True

    def test_h_reach_and_healing(self):
        for rng, book in books(12, 26):
            for stamp in rng.sample(book.listed(), min(4, len(book))):
                told, one, other = reach_of(book, stamp), State(book), State(book, [stamp])
                self.assertEqual(not any(told[word] for word in ("places", "contents")) and one.things() == other.things(), one == other)
                self.tells(sorted(set(one.line()) ^ set(other.line())), told["in"])
                if not (told["places"] or told["contents"]):
                    self.tells([[]] * 4, [told[word] for word in ("in", "uses", "names", "values")])
            ordinary = list(fates_of(book))
            broken = [stamp for stamp, fate in fates_of(book).items() if fate[0] in ("gone", "ring")]
            menu = tuple(sorted(set(broken[:5]) | set(rng.sample(ordinary, min(2, len(ordinary))))))[:6]
            if menu:
                sets = healing_sets(book, menu)
                for stamps in sets:
                    self.assertIs(True, does_heal(book, stamps))
                    for at in range(len(stamps)):
                        self.assertIs(False, does_heal(book, stamps[:at] + stamps[at + 1:]))
                self.assertEqual(does_heal(book, ()), sets == [()])

    def test_i_hands(self):
        for seed in range(15):
            crowd, row = random_doings(f"promises {seed}", 60)
            hands = Hands(crowd.count)
            told = {}
            for doing, got in row:
                if isinstance(got, str):
                    continue
                before = [hands.shown(hand) for hand in range(hands.many)]
                told = {hand: (horizon_of(hands, hand), certain_deeds(hands, hand)) for hand in range(hands.many)}
                getattr(hands, doing[0])(*doing[1:])
                for hand, (horizon, certain) in told.items():
                    for stamp in [stamp for stamp in hands.shown(hand) if stamp not in before[hand]]:
                        self.assertGreater(stamp[0], horizon)
                        self.assertTrue(all(one[0] <= hands.shown(hand)[stamp][1][one[1]] for one in certain))
            for one in range(hands.many):
                for other in range(hands.many):
                    if hands.kept(one) == hands.kept(other):
                        self.assertEqual(hands.shown(one), hands.shown(other))
                        self.assertEqual(State(hands.shown(one)), State(hands.shown(other)))
            everything = hands.everything()
            for sender, taker in fewest_messages(everything, [hands.branch(hand) for hand in range(hands.many)]):
                hands.ask(taker, sender)
            for hand in range(hands.many):
                self.assertEqual(everything, hands.shown(hand))

    def test_j_texts_of_books(self):
        for _, book in books(30):
            self.assertEqual(book, read_book(write_book(book)))
            self.assertIs(True, is_book_text(write_book(book)))


class EverywhereTest(Case):
    """Point [0.1]."""

    def test_like_calls_tell_the_same_and_change_nothing(self):
        for rng, book in books(6, 25):
            before, state = copy.deepcopy(book.deeds()), State(book)
            things = repr((state.line(), [(state.kind(thing), state.content(thing), state.place(thing)) for thing in state.things()]))
            calls = [lambda: fates_of(book), lambda: play_of(book), lambda: values_of(state), lambda: told_naming(state),
                     lambda: text_of(state), lambda: needed_lets(state), lambda: ends_of(state), lambda: shape_of(state),
                     lambda: write_book(book), lambda: reach_of(book, book.listed()[0]), lambda: told_pairs(book, "1 () 2"),
                     lambda: state.line(), lambda: state.under(ROOT), lambda: book.listed(), lambda: book.deeds()]
            for call in calls if len(book) else []:
                told = call()
                shown = repr(told)
                if isinstance(told, (list, dict)):
                    told.clear()
                self.assertEqual(shown, repr(call()))
            self.tells(before, book.deeds())
            self.assertEqual(things, repr((state.line(), [(state.kind(thing), state.content(thing), state.place(thing))
                                                          for thing in state.things()])))

    def test_objects_are_equal_only_to_those_of_their_class(self):
        book = made_of("1")
        objects = [book, State(book), Hands(2)]
        for one in objects:
            for other in [*objects, 1, None, (), "", book.listed(), book.deeds()]:
                self.assertIs(one is other, one == other)
                self.assertIs(one is not other, one != other)
        self.assertTrue(book == made_of("1") and State(book) == State(made_of("1")) and Hands(2) == Hands(2))

    def test_what_is_iterated_over_is_listed(self):
        for _, book in books(5):
            self.tells(book.listed(), list(book))
            self.assertIsNot(book.listed(), book.listed())

    def test_arguments_by_position_or_by_name(self):
        hands = Hands(count=2)
        made = hands.do(hand=0, body=("make", "number", ROOT, 0, 5))
        self.tells(0, hands.send(sender=0, taker=1, stamps=[made]))
        hands.take(packet=0)
        hands.lose(packet=0)
        self.tells([], hands.ask(taker=0, sender=1))
        state = State(book=hands.shown(hand=1), without=())
        self.tells({ROOT: 5, made: 5}, values_of(state=state))
        self.tells([()], healing_sets(book=hands.everything(), menu=(made,)))
        self.tells(True, does_heal(book=hands.everything(), stamps=[]))
        self.tells((), told_pairs(book=hands.shown(1), text=""))
