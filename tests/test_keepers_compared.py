"""Keepers at worlds, keepers compared, what is in them, and what they refuse."""

import copy
import itertools
import unittest

from keptcalls.errors import (KeptError, NoChoice, NoFunction, NoHistory, NoLibrary, NoNumber, NoSlots, NoWay, NoWorld)
from keptcalls.keepers import Keeper, choose, trial
from keptcalls.worlds import worlds
from tests import drawn
from tests.samples import BOXES, COUNTER, EMPTY, NO_LIBRARIES, NO_SLOTS, PAIR, call, choice_with, marks, plain
from tests.test_keepers import (BUMP_IT, DROP_IT, FRESH, MAKE_IT, READ_IT, SOME, STALE, KeeperTest, counter, look)

CHOICE = choice_with(COUNTER, f2=STALE)
WORLD = ((0,), ((0, 0, (1,)),), ((), (), (((0,), (0,), ("number", 0)),)))
NO_DEEDS = [None, True, False, 0, "", "drop", (), [], {}, (None,), ("drop",), ("drop", 1), ("drop", -1), ("drop", False),
            ("drop", 0, 0), ["drop", 0], ("call",), call(3), call(-1), call(1), call(1, 1), call(2, 0, k=0), call(0, k=1),
            ("call", True, (0,), None), ("call", 1, [0], None), ("call", 1, (False,), None), [READ_IT], (READ_IT,)]
NO_HISTORIES = [None, True, 0, "", "ab", (), (READ_IT,), {}, {READ_IT: 1}, READ_IT, [[]], [None], [0], [READ_IT, ()],
                [READ_IT] * 61] + [[deed] for deed in NO_DEEDS]
NO_CHOICES = [None, True, 0, "", (), [], {}, list(CHOICE), CHOICE[:2], CHOICE + (None,), (None, None, ()), (None, None, True),
              choice_with(COUNTER, f0=marks("thing", size=4)), choice_with(COUNTER, f1=marks("thing", clears=((0, 1),)))]
NO_SETTINGS = [True, False, 0, "", "name", (), [], {}, list(STALE), STALE[:4], STALE + (0,), (None,), (STALE,), ("thing",) * 5,
               marks("names"), marks("thing", "share"), marks("thing", errors=2), marks("thing", errors=False),
               marks("thing", size=0), marks("thing", size=True), marks("thing", clears=[]), marks("thing", clears=((0, 1),)),
               marks("thing", clears=((0, 0), (0, 0))), marks("thing", clears=(0, 0))]
NO_FUNCTIONS = [None, True, False, -1, 3, 10 ** 20, "", "0", (), (0,), [], [0], {}, slice(0, 1)]
NO_WORLDS = [None, True, 0, "", (), [], {}, list(WORLD), WORLD[:2], WORLD + ((),), ((1,),) + WORLD[1:], ((),) + WORLD[1:],
             ((None,), WORLD[1], ((), (), ())), ((0,), (), WORLD[2]), WORLD[:2] + (((), ()),), WORLD[:2] + (((), (), [],),),
             WORLD[:2] + (((), (), (((0,), (), ("number", 0)),)),), WORLD[:2] + (((), (), (((0,), (0,), ("number", 2)),)),),
             WORLD[:2] + (((), (), (((0,), (0,), ("error", 0)),)),), WORLD[:2] + (((), (), WORLD[2][2] * 2),),
             ((False,),) + WORLD[1:], ((0,), ((0, 0, (True,)),), WORLD[2]), ((0,), ((0, 0, (2,)),), WORLD[2])]


class Refusals(KeeperTest):
    def refuses(self, error, *ways):
        for way in ways:
            with self.assertRaises(error) as caught:
                way()
            self.assertIs(type(caught.exception), error)

    def keeps(self, keeper, error, *ways):
        """Each way is refused, and changes nothing of the keeper."""
        before = look(keeper)
        for way in ways:
            self.refuses(error, way)
            self.assertEqual(look(keeper), before)


class TestAt(Refusals):
    def test_it_goes_on_as_the_one_that_came_there(self):
        choice = choice_with(COUNTER, f2=STALE)
        for many in range(len(SOME) + 1):
            came = Keeper.of(COUNTER, (0,), choice, SOME[:many])
            keeper = Keeper.at(COUNTER, (0,), choice, came.world())
            self.assertEqual(look(keeper), (0, [0, 0, 0]) + look(came)[2:])
            self.assertEqual(keeper, came)
            hits = came.hits()
            for deed in SOME:
                self.assertEqual(keeper(deed), came(deed))
                self.assertEqual(look(keeper)[2:], look(came)[2:])
            self.assertEqual(keeper.hits(), [one - other for one, other in zip(came.hits(), hits)])

    def test_drawn_ones(self):
        for seed, (library, slots, choice) in enumerate(drawn.cases(0, 120)):
            history = drawn.history_of(seed, library, slots, 60)
            for many in (0, 1, 7, 20):
                came = Keeper.of(library, slots, choice, history[:many])
                keeper = Keeper.at(choice=choice, world=came.world(), library=library, slots=slots)
                self.assertEqual(keeper.do(*history[many:]), came.do(*history[many:]))
                self.assertEqual((keeper.world(), len(keeper)), (came.world(), len(history[many:])))

    def test_of_with_no_deeds_and_at_the_first_world(self):
        for library, slots in ((COUNTER, (0,)), (BOXES, (1, 0)), (EMPTY, ())):
            first = Keeper(library, slots, choice=plain(library))
            self.assertEqual(Keeper.of(library, slots, plain(library), []), first)
            self.assertEqual(Keeper.at(library, slots, plain(library), first.world()), first)

    def test_worlds_of_wrong_form(self):
        self.assertEqual(Keeper.at(COUNTER, (0,), CHOICE, WORLD).world(), WORLD)
        for world in NO_WORLDS:
            self.refuses(NoWorld, lambda: Keeper.at(COUNTER, (0,), CHOICE, world))
        self.refuses(NoWorld, lambda: Keeper.at(COUNTER, (), CHOICE, WORLD), lambda: Keeper.at(COUNTER, (0, 0), CHOICE, WORLD),
                     lambda: Keeper.at(COUNTER, (0,), plain(COUNTER), WORLD), lambda: Keeper.at(BOXES, (0,), plain(BOXES), WORLD))

    def test_errors_in_the_order_of_the_arguments(self):
        def both(library, slots, choice):
            return [lambda: Keeper(library, slots, choice=choice), lambda: Keeper.of(library, slots, choice, None),
                    lambda: Keeper.at(library, slots, choice, None), lambda: Keeper.of(library, slots, choice, [READ_IT]),
                    lambda: Keeper.at(library, slots, choice, WORLD), lambda: Keeper(choice=choice, slots=slots, library=library)]

        for library in NO_LIBRARIES:
            self.refuses(NoLibrary, *both(library, (0,), CHOICE), *both(library, None, None))
        for slots in NO_SLOTS:
            self.refuses(NoSlots, *both(COUNTER, slots, CHOICE), *both(COUNTER, slots, None))
        for choice in NO_CHOICES:
            self.refuses(NoChoice, *both(COUNTER, (0,), choice))
        for history in NO_HISTORIES:
            self.refuses(NoHistory, lambda: Keeper.of(COUNTER, (0,), CHOICE, history),
                         lambda: Keeper.of(history=history, choice=CHOICE, slots=(0,), library=COUNTER))

    def test_the_choice_is_passed_by_its_name(self):
        with self.assertRaises(TypeError):
            Keeper(COUNTER, (0,), CHOICE)
        with self.assertRaises(TypeError):
            Keeper(COUNTER, (0,))

    def test_no_call_changes_what_it_is_passed(self):
        history, world = list(SOME), copy.deepcopy(WORLD)
        keeper = Keeper.of(COUNTER, (0,), CHOICE, history)
        keeper.on(history)
        trial(keeper, history)
        keeper += history
        self.assertEqual(history, SOME)
        Keeper.at(COUNTER, (0,), CHOICE, world)(BUMP_IT)
        self.assertEqual(world, WORLD)
        history.clear()
        self.assertEqual(len(keeper), 2 * len(SOME))


class TestEqual(Refusals):
    def assert_equal(self, one, other, wanted):
        for left, right in ((one, other), (other, one)):
            self.assertIs(left == right, wanted)
            self.assertIs(left != right, not wanted)

    def test_keepers_of_the_same_world(self):
        one, other = counter(), counter()
        self.assert_equal(one, one, True)
        self.assert_equal(one, other, True)
        one(MAKE_IT)
        self.assert_equal(one, other, False)
        other(MAKE_IT)
        self.assert_equal(one, other, True)
        # Deeds, hits, savepoints and stretches do not count.
        one.do(READ_IT, READ_IT)
        other.do(READ_IT)
        other.save()
        self.assert_equal(one, other, True)
        with one:
            self.assert_equal(one, other, True)
            one(BUMP_IT)
            self.assert_equal(one, other, False)
        self.assert_equal(one, other, True)

    def test_other_slots_choices_worlds_and_libraries(self):
        one = Keeper(COUNTER, (0,), choice=CHOICE)
        self.assert_equal(one, Keeper(COUNTER, (), choice=CHOICE), False)
        self.assert_equal(one, Keeper(COUNTER, (0, 0), choice=CHOICE), False)
        self.assert_equal(one, Keeper(COUNTER, (0,), choice=plain(COUNTER)), False)
        for other in (FRESH, marks("name"), marks("thing", errors=1), marks("thing", size=2), marks("thing", "copied")):
            self.assert_equal(one, counter(other), False)
        for other in (COUNTER[:3] + ((0, 1),), (3,) + COUNTER[1:]):
            self.assert_equal(one, Keeper(other, (0,), choice=CHOICE), False)
        # The worlds are compared as they are: one thing of other names makes two of them.
        first = Keeper.of(COUNTER, (0,), CHOICE, [MAKE_IT])
        second = Keeper.of(COUNTER, (0,), CHOICE, [MAKE_IT, MAKE_IT])
        self.assertEqual((first.world()[0], second.world()[0]), ((0,), (1,)))
        self.assert_equal(first, second, False)
        # Slots of one world, in libraries of two kinds.
        self.assert_equal(Keeper(BOXES, (0,), choice=plain(BOXES)), Keeper(BOXES, (1,), choice=plain(BOXES)), False)

    def test_entries_count(self):
        one, other = counter(), counter()
        one.do(MAKE_IT, READ_IT)
        other.do(MAKE_IT)
        self.assert_equal(one, other, False)

    def test_what_is_no_keeper(self):
        keeper = counter()
        for other in (None, True, 0, "", (), [], {}, COUNTER, CHOICE, keeper.world(), [keeper], (keeper,), object(), Keeper, 1.5):
            self.assert_equal(keeper, other, False)
        self.assertIs(keeper in [counter()], True)
        self.assertIs(keeper in [0, None, counter(None)], False)


class TestWithin(Refusals):
    def test_keys_of_rooms(self):
        one, other = counter(), counter()
        self.assertEqual((one.within(other), other.within(one), one.within(one)), (True, True, True))
        one.do(MAKE_IT, READ_IT)
        self.assertEqual((one.within(other), other.within(one)), (False, True))
        other.do(MAKE_IT, BUMP_IT, READ_IT)
        # The keys are the same ones, though the worlds are not.
        self.assertEqual((one.within(other), other.within(one), one == other), (True, True, False))
        self.assertIs(one.within(other=other), True)

    def test_the_same_function_s_room(self):
        both = (None, STALE, STALE)
        one = Keeper.of(COUNTER, (0,), both, [MAKE_IT, BUMP_IT])
        other = Keeper.of(COUNTER, (0,), both, [MAKE_IT, READ_IT])
        self.assertEqual((one.within(other), other.within(one)), (False, False))
        other(BUMP_IT)
        self.assertEqual((one.within(other), other.within(one)), (True, False))

    def test_other_settings_and_plain_functions(self):
        # Choices need not be equal; keys are.
        one = Keeper.of(COUNTER, (0,), choice_with(COUNTER, f2=marks("name")), [MAKE_IT, READ_IT])
        other = Keeper.of(COUNTER, (0,), choice_with(COUNTER, f2=marks("thing", size=2)), [READ_IT, MAKE_IT, READ_IT])
        self.assertEqual((one[2], other[2]), ([(0,)], [(0,)]))
        self.assertEqual((one.within(other), other.within(one)), (True, True))
        other = Keeper.of(COUNTER, (0,), choice_with(COUNTER, f2=marks("content")), [MAKE_IT, READ_IT])
        self.assertEqual(other[2], [((0, 0),)])
        self.assertEqual((one.within(other), other.within(one)), (False, False))
        self.assertEqual((counter(None).within(one), one.within(counter(None))), (True, False))

    def test_some_keys_of_several(self):
        library = (3, ((),), ((1, (None,), None, ()),), (0,))
        keepers = {some: Keeper.of(library, (), (marks("name", size=3),), [call(0, n) for n in some])
                   for many in range(4) for some in itertools.permutations(range(3), many)}
        for one, other in itertools.product(keepers, repeat=2):
            self.assertIs(keepers[one].within(keepers[other]), set(one) <= set(other))

    def test_functions_that_are_not_exported(self):
        one = Keeper.of(PAIR, (0,), choice_with(PAIR, f4=STALE), [call(0, k=0), call(1, 0)])
        other = Keeper(PAIR, (0,), choice=choice_with(PAIR, f4=STALE))
        self.assertEqual((one[4], one.within(other), other.within(one)), ([(0,)], False, True))

    def test_what_is_no_keeper(self):
        for other in (None, True, 0, "", (), [], {}, COUNTER, counter().world()):
            self.assertIs(counter().within(other), False)

    def test_other_libraries_and_slots(self):
        one = Keeper(COUNTER, (0,), choice=CHOICE)
        for other in (Keeper(COUNTER, (), choice=CHOICE), Keeper(COUNTER, (0, 0), choice=CHOICE),
                      Keeper((3,) + COUNTER[1:], (0,), choice=CHOICE), Keeper(PAIR, (0,), choice=plain(PAIR))):
            self.assertEqual((one.within(other), other.within(one)), (False, False))


class TestHas(Refusals):
    def test_a_function_and_a_key(self):
        keeper = counter()
        keeper += [MAKE_IT, READ_IT]
        for f, key, wanted in ((2, (0,), True), (2, (1,), False), (2, (None,), False), (1, (0,), False), (0, (), False)):
            self.assertIs((f, key) in keeper, wanted)
            self.assertIs((f, key) not in keeper, not wanted)
            self.assertIs(keeper.has(f, key), wanted)
            self.assertIs(keeper.has(key=key, f=f), wanted)

    def test_keys_of_all_kinds(self):
        for key, settings in itertools.product(("name", "thing", "content"), ((1, 2), (1, 3))):
            keeper = Keeper(BOXES, (1, 0), choice=choice_with(BOXES, f1=marks(key, errors=1, size=3), f3=marks(key, size=2)))
            keeper.do(call(1, 0), call(0, k=0), call(1, 0, k=1), call(3, 1, 2), call(1, 0))
            for f in (1, 3):
                self.assertGreater(len(keeper[f]), 0)
                for one in keeper[f]:
                    self.assertEqual(((f, one) in keeper, keeper.has(f, one), (4 - f, one) in keeper), (True, True, False))
            self.assertIn((None,), keeper[1])
            self.assertIn((1, ((1, 0, (0, 0)),)) if key == "content" else (1, (0,)), keeper)

    def test_what_is_no_pair_of_a_function_and_a_key(self):
        keeper = Keeper.of(COUNTER, (0,), (STALE, STALE, STALE), SOME[:4])
        self.assertEqual([keeper[f] for f in range(3)], [[()], [(0,)], [(0,)]])
        for pair in (None, True, 0, 2, "", "ab", (), [], {}, (2,), (2, (0,), 0), [2, (0,)], {2: (0,)}, ((2, (0,)),), (2, 0), (2, [0]),
                     (2, {0: 0}), (2, "0"), (2, None), (2, (False,)), (2, (0, 0)), (2, ()), (2, ((0,),)), (2, ("0",)), (2, ([0],)),
                     (True, (0,)), (False, ()), (-1, (0,)), (-3, ()), (3, (0,)), (10 ** 20, (0,)), ("2", (0,)), (None, (0,)),
                     ((2,), (0,)), ([2], (0,)), (0, []), (0, None), (0, ""), (0, {})):
            self.assertIs(pair in keeper, False)
            if isinstance(pair, tuple) and len(pair) == 2:
                self.assertIs(keeper.has(*pair), False)

    def test_true_is_no_one_and_a_list_is_no_tuple(self):
        keeper = Keeper.of(BOXES, (1, 0), choice_with(BOXES, f1=marks("content"), f3=marks("content")),
                           [call(0, k=0), call(1, 0, k=1), call(3, 1, 1), call(3, 1, 1), call(1, 0)])
        self.assertEqual([keeper[f] for f in (1, 3)], [[((1, 0, (0, 1)),)], [((0, 1), 1)]])
        for pair in ((1, ((1, 0, (0, 1)),)), (3, ((0, 1), 1))):
            self.assertIs(pair in keeper, True)
        for pair in ((1, ((True, 0, (0, 1)),)), (1, ((1, False, (0, 1)),)), (1, ((1, 0, (0, True)),)), (1, ((1, 0, (False, 1)),)),
                     (1, ([1, 0, (0, 1)],)), (1, ((1, 0, [0, 1]),)), (1, ((1, 0, (0,)),)), (1, ((1, 0, (0, 1, 0)),)), (1, ((1, 0, 0),)),
                     (3, ((0, True), 1)), (3, ((0, 1), True)), (3, (None, 1)), (True, ((1, 0, (0, 1)),)), (1, ((1, 0, None),))):
            self.assertIs(pair in keeper, False)

    def test_a_keeper_is_not_iterated(self):
        keeper = counter()
        keeper += [MAKE_IT, READ_IT]
        for way in (iter, list, tuple, set, sorted, enumerate, dict, lambda keeper: [one for one in keeper],
                    lambda keeper: [*keeper], lambda keeper: max(keeper)):
            with self.assertRaises(TypeError) as caught:
                way(keeper)
            self.assertIs(type(caught.exception), TypeError)
        self.assertIs(bool(keeper), True)


class TestRefusals(Refusals):
    def setUp(self):
        self.keeper = counter()
        self.keeper += [MAKE_IT, READ_IT, READ_IT]
        self.keeper.save()

    def tearDown(self):
        self.assertEqual(self.keeper.save(), 1)

    def plus(self, history):
        keeper = self.keeper
        keeper += history

    def give(self, f, settings):
        self.keeper[f] = settings

    def set(self, choice):
        self.keeper.choice = choice

    def test_what_is_no_deed_and_no_history(self):
        for deed in NO_DEEDS:
            self.keeps(self.keeper, NoHistory, lambda: self.keeper(deed), lambda: self.keeper(deed=deed), lambda: self.keeper.do(deed),
                       lambda: self.keeper.do(READ_IT, deed), lambda: self.keeper.do(deed, READ_IT))
        for history in NO_HISTORIES:
            self.keeps(self.keeper, NoHistory, lambda: self.plus(history), lambda: self.keeper.on(history),
                       lambda: self.keeper.on(history=history), lambda: trial(self.keeper, history),
                       lambda: trial(keeper=self.keeper, history=history))

    def test_what_is_no_function(self):
        for f in NO_FUNCTIONS:
            self.keeps(self.keeper, NoFunction, lambda: self.keeper[f])
            for settings in (None, STALE, [], True):
                self.keeps(self.keeper, NoFunction, lambda: self.give(f, settings))
        self.keeps(self.keeper, NoFunction, lambda: self.keeper[0, 1], lambda: self.keeper[:])
        empty = Keeper(EMPTY, (), choice=())
        self.keeps(empty, NoFunction, lambda: empty[0])

    def test_what_are_no_settings(self):
        for settings in NO_SETTINGS:
            for f in range(3):
                self.keeps(self.keeper, NoChoice, lambda: self.give(f, settings))

    def test_what_is_no_choice(self):
        for choice in NO_CHOICES:
            self.keeps(self.keeper, NoChoice, lambda: self.set(choice), lambda: choose(self.keeper, choice),
                       lambda: choose(choice=choice, keeper=self.keeper))
        # None of them is given, also where the first ones are settings.
        self.keeps(self.keeper, NoChoice, lambda: self.set((FRESH, FRESH, marks("thing", size=0))))

    def test_what_is_no_savepoint(self):
        for number in (None, True, False, -1, 1, 2, 10 ** 20, "0", (), (0,), [0], {}):
            self.keeps(self.keeper, NoNumber, lambda: self.keeper.back(number), lambda: self.keeper.back(number=number))

    def test_they_are_refused_within_a_stretch_too(self):
        with self.keeper:
            self.keeper.do(DROP_IT)
            self.keeps(self.keeper, NoHistory, lambda: self.keeper(None))
            self.keeps(self.keeper, NoFunction, lambda: self.keeper[3])
            self.keeps(self.keeper, NoChoice, lambda: self.give(2, 0))
            self.keeps(self.keeper, NoNumber, lambda: self.keeper.back(1))
            self.keeps(self.keeper, NoWay, lambda: self.keeper.do(*[READ_IT] * 57))
        self.assertEqual(len(self.keeper), 3)

    def test_all_are_errors_of_this_package(self):
        for error in (NoHistory, NoFunction, NoChoice, NoNumber, NoWorld, NoWay):
            self.assertTrue(issubclass(error, KeptError))

    def test_the_keeper_s_world_is_the_one_of_its_history(self):
        self.assertEqual(self.keeper.world(), worlds(COUNTER, (0,), [MAKE_IT, READ_IT, READ_IT], CHOICE)[1])
