"""What the document says that holds, over told, compare, passes and keepers, for drawn libraries."""

import itertools
import random
import unittest

from keptcalls.comparing import compare
from keptcalls.keepers import Keeper, trial
from keptcalls.rooms import told
from keptcalls.texts import passes
from keptcalls.turned import most_hits, neighbours
from keptcalls.users import deeds
from tests import drawn
from tests.test_passes import choices_that_pass
from tests.samples import BOXES, COUNTER, PAIR, call, choice_with, marks, plain

HELD = ("thing", "shared", 0, 1, ())
SAFE = (None, None, None, HELD, HELD)


def called_by(library, history):
    """The functions that a history may call, directly or not."""
    found = {deed[1] for deed in history if deed[0] == "call"}
    while True:
        more = {row[2] for f in found for row in library[2][f][3] if row[0] == "call"} - found
        if not more:
            return found
        found |= more


def is_apart(library, slots, history, choice):
    one, other = told(library, slots, history, plain(library))[0], told(library, slots, history, choice)[0]
    return one[:-1] == other[:-1] and one[-1] != other[-1]


class TestPlain(unittest.TestCase):
    def test_all_tells_the_same_and_no_call_is_a_hit(self):
        for seed, (library, slots, choice) in enumerate(drawn.cases(0, 100)):
            history = drawn.history_of(seed, library, slots, 60)
            tellings, hits = told(library, slots, history, plain(library))
            self.assertEqual(hits, [0] * len(history))
            self.assertEqual(told(library, slots, history[:20], plain(library)), (tellings[:20], hits[:20]))
            self.assertNotEqual(compare(library, slots, plain(library), 20)[0], "apart")
            self.assertEqual(passes(library, plain(library)), [])
            keeper = Keeper(library, slots, choice=plain(library))
            self.assertEqual((keeper.do(*history), keeper.hits()), (tellings, [0] * 5))
            self.assertEqual([keeper[f] for f in range(5)], [[]] * 5)
            most = most_hits(library, slots, plain(library), 2, 60)
            self.assertIn(most and most[0], (None, 0))


class TestApart(unittest.TestCase):
    def found(self, first, many):
        for library, slots, choice in drawn.cases(first, many):
            answer = compare(library, slots, choice, 40)
            if answer[0] == "apart":
                yield library, slots, choice, answer[1]

    def test_for_each_choice_with_the_same_settings_of_the_functions_that_are_called(self):
        count = 0
        for seed, (library, slots, choice, history) in enumerate(self.found(3000, 400)):
            self.assertIs(is_apart(library, slots, history, choice), True)
            tellings = [Keeper(library, slots, choice=some).do(*history) for some in (choice, plain(library))]
            self.assertEqual([one == other for one, other in zip(*tellings)], [True] * (len(history) - 1) + [False])
            self.assertNotEqual(passes(library, choice), [])
            calls = called_by(library, history)
            for other in range(5):
                drawn_one = drawn.choice_of(100 * seed + other, library, 5)
                mixed = tuple(choice[f] if f in calls else drawn_one[f] for f in range(len(choice)))
                count += mixed != choice
                self.assertIs(is_apart(library, slots, history, mixed), True)
                self.assertNotEqual(compare(library, slots, mixed, 40)[0], "safe")
        self.assertGreater(count, 20)

    def test_with_one_slot_more_a_shortest_one_is_no_longer(self):
        count = 0
        for library, slots, choice, history in self.found(3000, 400):
            for kind in range(len(library[1])):
                if len(slots) < 2:
                    more = compare(library, slots + (kind,), choice, 120)
                    if more[0] != "full":
                        count += 1
                        self.assertEqual(more[0], "apart")
                        self.assertLessEqual(len(more[1]), len(history))
        self.assertGreater(count, 5)

    def test_a_slot_more_may_make_it_shorter_or_apart_at_all(self):
        larger = (None, None, None, ("thing", "shared", 0, 2, ()), HELD)
        self.assertEqual(compare(PAIR, (0,), larger, 400)[0], "safe")
        word, history, layers = compare(PAIR, (0, 0), larger, 400)
        self.assertEqual((word, len(history)), ("apart", 6))


class TestSafe(unittest.TestCase):
    def words(self, library, slots, *choices, limit=400):
        return [compare(library, slots, choice, limit)[0] for choice in choices]

    def test_the_settings_of_the_document_safe_with_any_errors_sizes_and_more_clears(self):
        for errors, size in itertools.product((0, 1), (1, 2, 3)):
            choice = (None, None, ("thing", "shared", errors, size, ((0, 0),)))
            self.assertEqual(self.words(COUNTER, (0,), choice), ["safe"])
            choice = (None, None, ("content", "copied", errors, size, ()))
            self.assertEqual(self.words(COUNTER, (0,), choice), ["safe"])
        # Function 2 of BOXES reads field 0 of kind 0, function 1 field 1 of kind 1.
        for clears in (((0, 0),), ((0, 0), (1, 0)), ((0, 0), (1, 1)), ((0, 0), (1, 0), (1, 1))):
            choice = choice_with(BOXES, f2=marks("thing", "shared", 1, 2, clears))
            self.assertIn(self.words(BOXES, (1, 0), choice, limit=60)[0], ("safe", "full"))

    def test_safe_choices_have_no_order(self):
        self.assertEqual(self.words(PAIR, (0,), SAFE, limit=60), ["safe"])
        # A function made plain, either one; a clear more, which is no harm with the other one.
        self.assertEqual(self.words(PAIR, (0,), SAFE[:3] + (None, HELD), SAFE[:3] + (HELD, None), plain(PAIR)),
                         ["apart", "apart", "safe"])
        more = ("thing", "shared", 0, 1, ((0, 1),))
        self.assertEqual(self.words(PAIR, (0,), SAFE[:3] + (more, HELD), SAFE[:3] + (HELD, more)), ["apart", "safe"])
        # A larger room, a function more exported.
        self.assertEqual(self.words(PAIR, (0, 0), SAFE, SAFE[:3] + (("thing", "shared", 0, 2, ()), HELD)), ["safe", "apart"])
        for f in (3, 4):
            self.assertEqual(self.words(PAIR[:3] + ((0, 1, 2, f),), (0,), SAFE), ["apart"])

    def test_a_safe_choice_and_its_neighbours(self):
        turned = {(f, what): (word, history) for f, what, word, history in neighbours(PAIR, (0,), SAFE, 60)}
        self.assertEqual({word for word, history in turned.values()}, {"safe", "apart"})
        for f, what in ((3, ("plain",)), (4, ("plain",)), (3, ("clears", (0, 1)))):
            some = SAFE[:f] + ((None if what == ("plain",) else ("thing", "shared", 0, 1, ((0, 1),))),) + SAFE[f + 1:]
            word, history = turned.get((f, what))
            self.assertEqual(word, compare(PAIR, (0,), some, 60)[0])
            self.assertIs(history is not None and is_apart(PAIR, (0,), history, some), word == "apart")

    def test_the_neighbours_of_the_document(self):
        found = []
        for f in (3, 4):
            for settings in (None, ("content",) + HELD[1:], ("name",) + HELD[1:], ("thing", "copied", 0, 1, ()),
                             ("thing", "shared", 1, 1, ()), ("thing", "shared", 0, 2, ()), ("thing", "shared", 0, 1, ((0, 0),)),
                             ("thing", "shared", 0, 1, ((0, 1),))):
                found.append(SAFE[:f] + (settings,) + SAFE[f + 1:])
        self.assertEqual(self.words(PAIR, (0,), *found, limit=60),
                         ["apart", "apart", "safe", "safe", "safe", "safe", "safe", "apart", "apart", "apart", "safe", "safe",
                          "safe", "safe", "safe", "safe"])

    def test_a_safe_choice_tells_the_same_whatever_the_history_is(self):
        count = 0
        for seed, (library, slots, choice) in enumerate(drawn.cases(5000, 150)):
            if deeds(library, slots) and compare(library, slots, choice, 40)[0] == "safe":
                for more in range(3):
                    history = drawn.history_of(1000 * seed + more, library, slots, 60)
                    count += sum(told(library, slots, history, choice)[1])
                    self.assertEqual(told(library, slots, history, choice)[0], told(library, slots, history, plain(library))[0])
        self.assertGreater(count, 100)

    def test_the_best_of_the_document(self):
        answer = compare(COUNTER, (0,), (None, None, HELD), 60)
        self.assertEqual((answer[0], len(answer[1])), ("apart", 4))
        self.assertEqual(self.words(COUNTER, (0,), (None, None, ("thing", "shared", 0, 1, ((0, 0),))), limit=60), ["safe"])


class TestPassing(unittest.TestCase):
    def test_a_choice_that_passes_is_safe_for_all_slots_with_any_errors_sizes_and_more_clears(self):
        words = {"safe": 0, "full": 0}
        for seed in range(60):
            library = drawn.library_of(seed)
            kinds = range(len(library[1]))
            draw = random.Random(f"more {seed}")
            fields = [(kind, i) for kind in kinds for i in range(len(library[1][kind]))]
            for choice in choices_that_pass(seed, library, 1):
                other = tuple(some and some[:2] + (draw.randint(0, 1), draw.randint(1, 3), tuple(sorted(
                    {*some[4], *[field for field in fields if draw.random() < 0.5]}))) for some in choice)
                for slots in [()] + [(k,) for k in kinds] + [(k, m) for k in kinds for m in kinds]:
                    for one in (choice, other):
                        self.assertEqual(passes(library, one), [])
                        words[compare(library, slots, one, 25)[0]] += 1
        self.assertGreater(words["safe"], 100)


class TestKeepers(unittest.TestCase):
    def test_a_keeper_tells_and_counts_what_told_does(self):
        for seed, (library, slots, choice) in enumerate(drawn.cases(7000, 100)):
            history = drawn.history_of(seed, library, slots, 60)
            tellings, hits = told(library, slots, history, choice)
            keeper = Keeper(library, slots, choice=choice)
            for at in range(0, len(history), 7):
                some = history[at:at + 7]
                self.assertEqual(trial(keeper, some)[0], tellings[at:at + 7])
                other = keeper.on(some)
                self.assertEqual(keeper.do(*some), tellings[at:at + 7])
                self.assertEqual(sum(keeper.hits()), sum(hits[:at + 7]))
                self.assertEqual((other == keeper, other.hits()), (True, keeper.hits()))

    def test_one_at_a_world_goes_on_as_the_one_that_came_there(self):
        for seed, (library, slots, choice) in enumerate(drawn.cases(7100, 100)):
            history = drawn.history_of(seed, library, slots, 60)
            tellings, hits = told(library, slots, history, choice)
            for many in (3, 30):
                keeper = Keeper.at(library, slots, choice, Keeper.of(library, slots, choice, history[:many]).world())
                self.assertEqual(keeper.do(*history[many:]), tellings[many:])
                self.assertEqual(sum(keeper.hits()), sum(hits[many:]))
