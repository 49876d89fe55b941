"""Keepers, held step by step against what told and worlds say and against a second account of them."""

import itertools
import random
import unittest

from keptcalls.errors import NoHistory, NoNumber, NoWay
from keptcalls.keepers import Keeper, choose, trial
from keptcalls.rooms import told
from keptcalls.users import deeds
from keptcalls.worlds import worlds
from tests import drawn
from tests.oracle_keepers import Slow
from tests.samples import BOXES, BUMP, COUNTER, EMPTY, GIVE, MAKE, READ, call, choice_with, library_with, marks, plain

STALE, FRESH = marks("thing"), marks("thing", clears=((0, 0),))
MAKE_IT, BUMP_IT, READ_IT, DROP_IT = call(0, k=0), call(1, 0), call(2, 0), ("drop", 0)
SOME = [MAKE_IT, READ_IT, BUMP_IT, READ_IT, READ_IT, DROP_IT, READ_IT, MAKE_IT, READ_IT]


def counter(settings=STALE):
    return Keeper(COUNTER, (0,), choice=choice_with(COUNTER, f2=settings))


def look(keeper):
    """All that a keeper tells of where it stands."""
    functions = range(len(keeper.choice))
    return (len(keeper), keeper.hits(), keeper.choice, keeper.world(), [keeper[f] for f in functions])


class KeeperTest(unittest.TestCase):
    def stands(self, keeper, slow):
        self.assertEqual(look(keeper), slow.look())
        for f, keys in enumerate(slow.look()[4]):
            for g in range(len(keeper.choice)):
                for key in keys:
                    wanted = key in slow.look()[4][g]
                    self.assertIs(keeper.has(g, key), wanted)
                    self.assertIs((g, key) in keeper, wanted)

    def as_told(self, keeper, library, slots, history, choice):
        """The keeper stands where the history leads to, by told and by worlds."""
        self.assertEqual(len(keeper), len(history))
        self.assertEqual(sum(keeper.hits()), sum(told(library, slots, history, choice)[1]))
        self.assertEqual(keeper.world(), worlds(library, slots, history, choice)[1])
        self.assertEqual(keeper.choice, choice)
        for f, room in enumerate(keeper.world()[2]):
            self.assertEqual(keeper[f], [key for key, arguments, result in room])


class TestDeeds(KeeperTest):
    def test_the_interface(self):
        for one in (Keeper, trial, choose):
            self.assertEqual(one.__module__, "keptcalls.keepers")
        for name in ("__init__", "of", "at", "free", "__call__", "do", "__iadd__", "on", "__getitem__", "__setitem__", "choice",
                     "__contains__", "has", "__len__", "hits", "world", "__eq__", "within", "save", "back", "__enter__", "__exit__"):
            self.assertIn(name, vars(Keeper))
        self.assertIs(type(vars(Keeper)["of"]), classmethod)
        self.assertIs(type(vars(Keeper)["at"]), classmethod)
        self.assertIs(type(vars(Keeper)["free"]), staticmethod)
        self.assertIs(type(vars(Keeper)["choice"]), property)

    def test_the_example_of_the_document(self):
        keeper = counter()
        self.assertEqual([keeper(MAKE_IT), keeper.do(READ_IT, READ_IT), keeper.hits(), keeper[2], (2, (0,)) in keeper, len(keeper)],
                         [None, [0, 0], [0, 0, 1], [(0,)], True, 3])

    def test_one_that_has_done_nothing(self):
        for library, slots in ((COUNTER, (0,)), (BOXES, (1, 0)), (EMPTY, ()), (EMPTY, (0, 0))):
            keeper = Keeper(library, slots, choice=plain(library))
            self.assertEqual(look(keeper), (0, [0] * len(library[2]), plain(library),
                                            ((None,) * len(slots), (), ((),) * len(library[2])), [[]] * len(library[2])))
            self.assertEqual(keeper.do(), [])

    def test_each_way_to_do_deeds(self):
        choice = choice_with(COUNTER, f2=STALE)
        tellings = told(COUNTER, (0,), SOME, choice)[0]
        keeper = counter()
        self.assertEqual([keeper(deed) for deed in SOME], tellings)
        self.as_told(keeper, COUNTER, (0,), SOME, choice)
        keeper = counter()
        self.assertEqual([keeper(deed=deed) for deed in SOME], tellings)
        for at in range(len(SOME) + 1):
            keeper = counter()
            self.assertEqual(keeper.do(*SOME[:at]) + keeper.do(*SOME[at:]), tellings)
            self.as_told(keeper, COUNTER, (0,), SOME, choice)
            keeper = first = counter()
            keeper += SOME[:at]
            self.assertIs(keeper, first)
            self.as_told(keeper, COUNTER, (0,), SOME[:at], choice)
            other = keeper.on(SOME[at:])
            self.as_told(keeper, COUNTER, (0,), SOME[:at], choice)
            self.as_told(other, COUNTER, (0,), SOME, choice)
            self.as_told(keeper.on(history=SOME[at:]), COUNTER, (0,), SOME, choice)
            self.assertEqual(trial(keeper, SOME[at:]), (tellings[at:], other.world()))
            self.assertEqual(trial(history=SOME[at:], keeper=keeper), (tellings[at:], other.world()))
            self.as_told(keeper, COUNTER, (0,), SOME[:at], choice)
            self.as_told(Keeper.of(COUNTER, (0,), choice, SOME[:at]), COUNTER, (0,), SOME[:at], choice)

    def test_an_error_is_told_and_is_no_error_of_the_keeper(self):
        keeper = counter(marks("thing", errors=1))
        self.assertEqual(keeper.do(READ_IT, READ_IT), [("error", 0), ("error", 0)])
        self.assertEqual((keeper.hits(), keeper[2]), ([0, 0, 1], [(None,)]))

    def test_hits_of_calls_by_functions(self):
        library = library_with((0, (None,), None, (("call", 0, 1, (0,)), ("call", 0, 1, (0,)))), (1, (None, None), None, ()))
        keeper = Keeper(library, (), choice=(None, marks("name", size=2)))
        keeper.do(call(0), call(0), call(1, 0), call(1, 1))
        self.assertEqual(keeper.hits(), [0, 4])
        keeper = Keeper(library, (), choice=(marks("name"), marks("name", size=2)))
        keeper.do(call(0), call(0), call(1, 0), call(1, 1))
        self.assertEqual(keeper.hits(), [1, 2])

    def test_the_new_keeper_and_the_old_one_go_their_own_ways(self):
        keeper = counter()
        keeper += [MAKE_IT, READ_IT]
        other = keeper.on([])
        self.assertIsNot(other, keeper)
        self.assertEqual(look(other), look(keeper))
        other.do(DROP_IT, MAKE_IT)
        other[2] = None
        self.as_told(keeper, COUNTER, (0,), [MAKE_IT, READ_IT], choice_with(COUNTER, f2=STALE))
        keeper(READ_IT)
        self.assertEqual((other.choice, len(other), len(keeper)), (plain(COUNTER), 4, 3))

    def test_lists_are_new(self):
        keeper = counter()
        keeper += [MAKE_IT, READ_IT]
        before = look(keeper)
        for made in (keeper.hits(), keeper[2], keeper.do(), trial(keeper, [READ_IT])[0]):
            self.assertIs(type(made), list)
            made.append("more")
        self.assertEqual(look(keeper), before)
        history = [READ_IT]
        other = keeper.on(history)
        keeper += history
        history.clear()
        self.assertEqual((len(other), len(keeper)), (3, 3))

    def test_drawn_ones_deed_by_deed(self):
        for seed, (library, slots, choice) in enumerate(drawn.cases(0, 120)):
            history = drawn.history_of(seed, library, slots, 60)
            keeper = Keeper(library, slots, choice=choice)
            tellings, hits = told(library, slots, history, choice)
            for at, deed in enumerate(history):
                self.assertEqual(keeper(deed), tellings[at])
                self.assertEqual(sum(keeper.hits()), sum(hits[:at + 1]))
            self.as_told(keeper, library, slots, history, choice)
            slow = Slow(library, slots, choice)
            slow.do(history)
            self.stands(keeper, slow)


class TestSixty(KeeperTest):
    def full(self, many=60):
        return Keeper.of(COUNTER, (0,), choice_with(COUNTER, f2=STALE), (SOME * 7)[:many])

    def refuses(self, error, keeper, *ways):
        before = look(keeper)
        for way in ways:
            with self.assertRaises(error) as caught:
                way()
            self.assertIs(type(caught.exception), error)
            self.assertEqual(look(keeper), before)

    def each_way(self, keeper, history):
        """Each way to do deeds that are as many as these."""
        def plus():
            same = keeper
            same += history

        return [lambda: keeper.do(*history), plus, lambda: keeper.on(history), lambda: trial(keeper, history)]

    def test_the_sixty_first_deed(self):
        keeper = self.full()
        self.assertEqual(len(keeper), 60)
        self.refuses(NoWay, keeper, lambda: keeper(READ_IT), *self.each_way(keeper, [READ_IT]))
        self.refuses(NoWay, keeper, *self.each_way(keeper, [READ_IT] * 60))

    def test_the_sixtieth_deed_and_no_deed(self):
        for way in range(4):
            keeper = self.full(59)
            self.each_way(keeper, [READ_IT])[way]()
            self.assertEqual(len(keeper), 60 if way < 2 else 59)
            keeper = self.full()
            self.each_way(keeper, [])[way]()
            self.assertEqual(len(keeper), 60)
        keeper = self.full(59)
        keeper(READ_IT)
        self.assertEqual(len(keeper), 60)
        self.assertEqual(keeper.do(), [])
        self.assertEqual(trial(keeper, []), ([], keeper.world()))

    def test_none_of_several_deeds_is_done_if_one_is_behind_the_sixtieth(self):
        for many, more in ((59, 2), (58, 3), (30, 31), (1, 60)):
            keeper = self.full(many)
            self.refuses(NoWay, keeper, *self.each_way(keeper, ([READ_IT, BUMP_IT] * 30)[:more]))
            self.each_way(keeper, ([READ_IT, BUMP_IT] * 30)[:more - 1])[0]()
            self.assertEqual(len(keeper), 60)

    def test_sixty_one_deeds_at_once(self):
        # A list of sixty-one deeds is no history; of do, that has deeds, the last one is behind the sixtieth.
        keeper = counter()
        ways = self.each_way(keeper, [READ_IT] * 61)
        self.refuses(NoWay, keeper, ways[0])
        self.refuses(NoHistory, keeper, *ways[1:])
        with self.assertRaises(NoHistory):
            Keeper.of(COUNTER, (0,), choice_with(COUNTER, f2=STALE), [READ_IT] * 61)
        self.assertEqual(len(keeper.on([READ_IT] * 60)), 60)

    def test_what_is_no_deed_comes_ahead_of_a_deed_too_many(self):
        keeper = self.full()
        self.refuses(NoHistory, keeper, lambda: keeper(("drop", 1)), *self.each_way(keeper, [("drop", 1)]))
        self.refuses(NoHistory, keeper, *self.each_way(keeper, [READ_IT, ("drop", 1)]))
        self.refuses(NoHistory, keeper, *self.each_way(keeper, [("drop", 1), READ_IT]))

    def test_none_of_several_deeds_is_done_if_one_is_none(self):
        keeper = counter()
        keeper += [MAKE_IT]
        for at in range(4):
            history = [READ_IT, BUMP_IT, READ_IT]
            history.insert(at, call(1, 1))
            self.refuses(NoHistory, keeper, *self.each_way(keeper, history))

    def test_deeds_that_were_gone_back_from_do_not_count(self):
        keeper = self.full(50)
        number = keeper.save()
        keeper.do(*[READ_IT] * 10)
        self.refuses(NoWay, keeper, lambda: keeper(READ_IT))
        keeper.back(number)
        keeper.do(*[READ_IT] * 10)
        keeper.back(number)
        with keeper:
            keeper.do(*[READ_IT] * 10)
            self.refuses(NoWay, keeper, lambda: keeper(READ_IT))
        self.assertEqual(keeper.do(*[READ_IT] * 10)[0], 0)

    def test_one_at_a_world_has_sixty_deeds_ahead(self):
        keeper = self.full()
        keeper = Keeper.at(COUNTER, (0,), keeper.choice, keeper.world())
        keeper.do(*[READ_IT] * 60)
        self.refuses(NoWay, keeper, lambda: keeper(READ_IT))


class TestSettings(KeeperTest):
    def test_other_settings_empty_the_room(self):
        for settings in (None, FRESH, marks("thing", size=2), STALE):
            keeper = counter()
            keeper += [MAKE_IT, READ_IT, READ_IT]
            keeper[2] = settings
            # The same settings, too; the thing is had by the slot all the same.
            self.assertEqual(look(keeper), (3, [0, 0, 1], choice_with(COUNTER, f2=settings),
                                            ((0,), ((0, 0, (0,)),), ((), (), ())), [[], [], []]))

    def test_the_rooms_of_the_others_stay(self):
        keeper = Keeper(COUNTER, (0,), choice=(None, STALE, STALE))
        keeper += [MAKE_IT, READ_IT, BUMP_IT]
        keeper[1] = marks("name")
        self.assertEqual((keeper[1], keeper[2]), ([], [(0,)]))
        keeper[0] = marks("thing")
        self.assertEqual((keeper[0], keeper[1], keeper[2], keeper.choice), ([], [], [(0,)], (marks("thing"), marks("name"), STALE)))

    def test_what_is_not_alive_any_more_is_removed(self):
        # The entry has the thing; behind the change its name is free.
        keeper = counter()
        keeper += [MAKE_IT, READ_IT, DROP_IT]
        self.assertEqual(keeper.world()[1], ((0, 0, (0,)),))
        for settings in (None, STALE, FRESH):
            other = keeper.on([])
            other[2] = settings
            self.assertEqual(other.world(), ((None,), (), ((), (), ())))
            other(MAKE_IT)
            self.assertEqual(other.world()[0], (0,))
        keeper[1] = FRESH
        keeper(MAKE_IT)
        self.assertEqual(keeper.world()[0], (1,))
        # What an entry has through a field of its thing, too; a thing that a slot has stays.
        choice = choice_with(BOXES, f0=marks("name"))
        keeper = Keeper.of(BOXES, (1, 0), choice, [call(0, k=0), call(1, 0, k=1), ("drop", 0)])
        self.assertEqual([name for name, kind, fields in keeper.world()[1]], [0, 1])
        keeper.choice = plain(BOXES)
        self.assertEqual(keeper.world(), ((None, 1), ((1, 0, (0,)),), ((),) * 5))

    def test_new_settings_are_used(self):
        keeper = counter(None)
        keeper += [MAKE_IT, READ_IT, READ_IT]
        self.assertEqual(keeper.hits(), [0, 0, 0])
        keeper[2] = STALE
        self.assertEqual(keeper.do(READ_IT, BUMP_IT, READ_IT), [0, 0, 0])
        self.assertEqual(keeper.hits(), [0, 0, 1])
        keeper[2] = FRESH
        self.assertEqual(keeper.do(READ_IT, BUMP_IT, READ_IT), [1, 0, 0])
        keeper[2] = None
        self.assertEqual((keeper.hits(), len(keeper)), ([0, 0, 1], 9))

    def test_a_choice_set_with_some_and_with_no_changed_settings(self):
        for setter in (choose, lambda keeper, choice: choose(choice=choice, keeper=keeper),
                       lambda keeper, choice: setattr(keeper, "choice", choice)):
            keeper = Keeper(COUNTER, (0,), choice=(None, STALE, STALE))
            keeper += [MAKE_IT, READ_IT, BUMP_IT]
            before = look(keeper)
            self.assertIsNone(setter(keeper, (None, STALE, STALE)))
            self.assertEqual(look(keeper), before)
            setter(keeper, (None, STALE, FRESH))
            self.assertEqual((keeper[1], keeper[2], keeper.choice), ([(0,)], [], (None, STALE, FRESH)))
            setter(keeper, (FRESH, STALE, FRESH))
            self.assertEqual((keeper[1], keeper.choice), ([(0,)], (FRESH, STALE, FRESH)))
            setter(keeper, plain(COUNTER))
            self.assertEqual((keeper[1], keeper.choice, len(keeper)), ([], plain(COUNTER), 3))
            # Each part of the settings counts.
            for other in (marks("name"), marks("thing", "copied"), marks("thing", errors=1), marks("thing", size=2), FRESH, None):
                keeper = Keeper.of(COUNTER, (0,), (None, STALE, STALE), [MAKE_IT, READ_IT, BUMP_IT])
                setter(keeper, (None, STALE, other))
                self.assertEqual((keeper[1], keeper[2]), ([(0,)], []))

    def test_the_keys_of_a_room_are_in_their_order(self):
        library = library_with((1, (None,), None, (("return", 0),)))
        keeper = Keeper(library, (), choice=(marks("name", size=3),))
        keeper += [call(0, n) for n in (2, 0, 1, 0, 2)]
        self.assertEqual(keeper[0], [(2,), (0,), (1,)])
        keeper[0] = marks("name", size=2)
        keeper += [call(0, n) for n in (2, 0, 1)]
        self.assertEqual(keeper[0], [(0,), (1,)])


class TestSavepoints(KeeperTest):
    def test_numbers(self):
        keeper = counter()
        self.assertEqual([keeper.save() for _ in range(3)], [0, 1, 2])
        self.assertIsNone(keeper.back(1))
        self.assertEqual([keeper.save() for _ in range(3)], [2, 3, 4])
        keeper.back(number=0)
        self.assertEqual(keeper.save(), 1)

    def test_what_is_gone_back_to(self):
        keeper = counter()
        keeper += [MAKE_IT, READ_IT, READ_IT]
        at_first = look(keeper)
        keeper.save()
        keeper += [BUMP_IT, READ_IT]
        keeper[2] = FRESH
        keeper += [READ_IT, READ_IT]
        later = look(keeper)
        keeper.save()
        keeper.choice = plain(COUNTER)
        keeper(DROP_IT)
        keeper.back(1)
        self.assertEqual(look(keeper), later)
        keeper.back(1)
        self.assertEqual(look(keeper), later)
        keeper.back(0)
        self.assertEqual(look(keeper), at_first)
        self.assertEqual(keeper.do(BUMP_IT, READ_IT), [0, 0])
        keeper.back(0)
        self.assertEqual(look(keeper), at_first)

    def test_those_behind_are_gone(self):
        keeper = counter()
        for _ in range(4):
            keeper.save()
            keeper(MAKE_IT)
        keeper.back(2)
        self.assertEqual(len(keeper), 2)
        for number in (3, 4):
            with self.assertRaises(NoNumber):
                keeper.back(number)
        self.assertEqual(keeper.save(), 3)
        self.assertEqual(len(keeper), 2)
        keeper.back(0)
        for number in (1, 2, 3):
            with self.assertRaises(NoNumber):
                keeper.back(number)
        keeper.back(0)

    def test_a_new_keeper_has_none(self):
        keeper = counter()
        keeper.save()
        with self.assertRaises(NoNumber):
            keeper.on([]).back(0)
        self.assertEqual(keeper.on([READ_IT]).save(), 0)
        for other in (counter(), Keeper.of(COUNTER, (0,), keeper.choice, [MAKE_IT]),
                      Keeper.at(COUNTER, (0,), keeper.choice, keeper.world())):
            with self.assertRaises(NoNumber):
                other.back(0)
        # What the new one saves is none of the old one's.
        keeper.on([]).save()
        self.assertEqual(keeper.save(), 1)


class TestStretches(KeeperTest):
    def test_it_is_back_at_the_end(self):
        keeper = counter()
        keeper += [MAKE_IT, READ_IT]
        before = look(keeper)
        with keeper as same:
            self.assertIs(same, keeper)
            self.assertEqual(look(keeper), before)
            self.assertEqual(keeper.do(BUMP_IT, READ_IT), [0, 0])
            keeper += [DROP_IT]
            keeper[2] = None
            keeper.choice = (FRESH,) * 3
            self.assertEqual((len(keeper), keeper.choice), (5, (FRESH,) * 3))
        self.assertEqual(look(keeper), before)
        self.assertEqual(keeper.do(BUMP_IT, READ_IT), [0, 0])

    def test_savepoints_within_are_gone_and_those_before_are_there(self):
        keeper = counter()
        keeper.save()
        keeper(MAKE_IT)
        keeper.save()
        with keeper:
            keeper(READ_IT)
            self.assertEqual(keeper.save(), 2)
            keeper(READ_IT)
            keeper.back(2)
            self.assertEqual(len(keeper), 2)
        with self.assertRaises(NoNumber):
            keeper.back(2)
        with keeper:
            keeper.back(0)
            self.assertEqual(len(keeper), 0)
            with self.assertRaises(NoNumber):
                keeper.back(1)
            self.assertEqual(keeper.save(), 1)
            keeper(READ_IT)
        self.assertEqual(len(keeper), 1)
        keeper.back(1)
        self.assertEqual(look(keeper)[3][0], (0,))
        self.assertEqual(keeper.save(), 2)

    def test_stretches_within_one_another(self):
        keeper = counter()
        looks_of = []
        with keeper:
            keeper(MAKE_IT)
            keeper.save()
            looks_of.append(look(keeper))
            with keeper:
                keeper(READ_IT)
                looks_of.append(look(keeper))
                with keeper:
                    keeper.back(0)
                    keeper[2] = None
                with keeper:
                    keeper.do(BUMP_IT, BUMP_IT)
                    keeper.save()
                self.assertEqual(look(keeper), looks_of[1])
                self.assertEqual(keeper.save(), 1)
            self.assertEqual(look(keeper), looks_of[0])
            self.assertEqual(keeper.save(), 1)
        self.assertEqual(len(keeper), 0)
        with self.assertRaises(NoNumber):
            keeper.back(0)

    def test_an_error_goes_through(self):
        class Own(Exception):
            pass

        for error in (Own, ValueError, NoHistory, KeyboardInterrupt):
            keeper = counter()
            keeper += [MAKE_IT]
            before = look(keeper)
            with self.assertRaises(error):
                with keeper:
                    keeper(READ_IT)
                    with self.assertRaises(error):
                        with keeper:
                            keeper(READ_IT)
                            raise error("text")
                    self.assertEqual(len(keeper), 2)
                    keeper.save()
                    raise error("text")
            self.assertEqual(look(keeper), before)
            self.assertEqual(keeper.save(), 0)

    def test_an_error_of_the_keeper_itself(self):
        keeper = counter()
        with self.assertRaises(NoHistory):
            with keeper:
                keeper(MAKE_IT)
                keeper(("drop", 7))
        self.assertEqual(len(keeper), 0)

    def test_a_stretch_left_by_return_or_break(self):
        keeper = counter()

        def inside():
            with keeper:
                return keeper.do(MAKE_IT, READ_IT)

        self.assertEqual((inside(), len(keeper)), ([None, 0], 0))
        for _ in range(3):
            with keeper:
                keeper(MAKE_IT)
                break
        self.assertEqual(len(keeper), 0)

    def test_a_new_keeper_is_in_no_stretch(self):
        keeper = counter()
        with keeper:
            keeper(MAKE_IT)
            other = keeper.on([READ_IT])
            with other:
                other(READ_IT)
            self.assertEqual(len(other), 2)
        self.assertEqual((len(keeper), len(other)), (0, 2))

    def test_two_keepers(self):
        one, other = counter(), counter(None)
        with one, other:
            one(MAKE_IT)
            other.do(MAKE_IT, READ_IT)
            self.assertEqual((len(one), len(other)), (1, 2))
        self.assertEqual((len(one), len(other)), (0, 0))


class TestTrials(KeeperTest):
    def test_what_the_deeds_would_tell(self):
        keeper = counter()
        keeper += [MAKE_IT, READ_IT]
        keeper.save()
        before = look(keeper)
        for history in ([], [BUMP_IT, READ_IT], [DROP_IT, READ_IT], [READ_IT] * 58):
            answer = trial(keeper, history)
            self.assertEqual((type(answer), len(answer), type(answer[0])), (tuple, 2, list))
            other = keeper.on(history)
            self.assertEqual(answer[1], other.world())
            self.assertEqual(answer[0], told(COUNTER, (0,), [MAKE_IT, READ_IT] + history, keeper.choice)[0][2:])
            self.assertEqual(look(keeper), before)
        self.assertEqual(keeper.save(), 1)

    def test_within_a_stretch(self):
        keeper = counter()
        with keeper:
            keeper(MAKE_IT)
            keeper.save()
            self.assertEqual(trial(keeper, [READ_IT])[0], [0])
            self.assertEqual((len(keeper), keeper.save()), (1, 1))
        self.assertEqual(len(keeper), 0)


class Script(KeeperTest):
    """Drawn calls of a keeper and of its second account, one after the other."""

    def go(self, draw, keeper, slow, every, many, deep):
        for _ in range(many):
            word = draw.choice(["call", "do", "plus", "on", "give", "choice", "save", "back", "trial", "with", "do", "do"])
            some = [draw.choice(every) for _ in range(draw.randint(0, 4))] if every else []
            some = some[:60 - len(keeper)]
            keeper, slow = self.step(draw, word, keeper, slow, some, every, deep)
            self.stands(keeper, slow)

    def step(self, draw, word, keeper, slow, some, every, deep):
        library = slow.first[0]
        f = draw.randrange(len(library[2]))
        if word == "call" and some:
            self.assertEqual(keeper(some[0]), slow.do(some[:1])[0])
        elif word == "do":
            self.assertEqual(keeper.do(*some), slow.do(some))
        elif word == "plus":
            keeper += some
            slow.do(some)
        elif word == "on" and deep == 0 and draw.random() < 0.5:
            keeper, slow = keeper.on(some), slow.other()
            slow.do(some)
        elif word in ("on", "trial"):
            other = slow.other()
            self.assertEqual(trial(keeper, some), (other.do(some), other.look()[3]))
            self.stands(keeper.on(some), other)
        elif word == "give":
            settings = draw.choice([None, keeper.choice[f], drawn.settings_of(draw, library[1])])
            keeper[f] = settings
            slow.give(f, settings)
        elif word == "choice":
            choice = tuple(draw.choice([None, own, own, drawn.settings_of(draw, library[1])]) for own in keeper.choice)
            draw.choice([choose, lambda keeper, choice: setattr(keeper, "choice", choice)])(keeper, choice)
            slow.choose(choice)
        elif word == "save":
            self.assertEqual(keeper.save(), slow.save())
        elif word == "back" and slow.saves:
            number = draw.randrange(len(slow.saves))
            keeper.back(number)
            slow.back(number)
        elif word == "with" and deep < 3:
            inner = slow.other()
            inner.saves = [list(events) for events in slow.saves]
            with keeper:
                self.go(draw, keeper, inner, every, draw.randint(1, 4), deep + 1)
        return keeper, slow


class TestScripts(Script):
    def test_drawn_ones(self):
        for seed, (library, slots, choice) in enumerate(drawn.cases(0, 220)):
            draw = random.Random(f"script {seed}")
            self.go(draw, Keeper(library, slots, choice=choice), Slow(library, slots, choice), deeds(library, slots), 14, 0)

    def test_small_ones(self):
        library = library_with(MAKE, BUMP, READ, GIVE, modulus=2)
        for seed in range(80):
            draw = random.Random(f"small {seed}")
            choice = tuple(draw.choice([None, drawn.settings_of(draw, library[1])]) for _ in range(4))
            self.go(draw, Keeper(library, (0, 0), choice=choice), Slow(library, (0, 0), choice), deeds(library, (0, 0)), 20, 0)


class TestFree(unittest.TestCase):
    def test_the_least_integer_that_is_not_in_the_list(self):
        for names, wanted in (([], 0), ([0], 1), ([1], 0), ([0, 1, 2], 3), ([2, 0, 1], 3), ([0, 0, 2, 2], 1), ([5, 3, 99], 0),
                              (list(range(100)), 100), (list(range(99, 0, -1)), 0), (list(range(99)), 99), ([1, 0, 3] * 500, 2)):
            before = list(names)
            self.assertEqual(Keeper.free(names), wanted)
            self.assertEqual(Keeper.free(names=names), wanted)
            self.assertEqual(counter().free(names), wanted)
            self.assertEqual(names, before)

    def test_all_small_ones(self):
        for names in itertools.chain(*[itertools.product(range(5), repeat=many) for many in range(6)]):
            self.assertEqual(Keeper.free(list(names)), min(set(range(6)) - set(names)))
