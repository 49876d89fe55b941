"""Of each function with a library: the error for the earliest argument, names of arguments, what is left unchanged."""

import copy
import inspect
import itertools
import unittest

from keptcalls.comparing import compare, shows
from keptcalls.errors import NoChoice, NoHistory, NoLibrary, NoLimit, NoSlots, NoWorld
from keptcalls.rooms import is_choice, told
from keptcalls.worlds import renumbered, worlds
from tests.samples import BOXES, COUNTER, NO_LIBRARIES, NO_SLOTS, call, choice_with, marks

HISTORY = [call(0, k=0), call(2, 0), call(1, 0), call(2, 0)]
CHOICE = (None, None, ("thing", "shared", 0, 1, ()))
WORLD = ((3,), ((3, 0, (1,)),), ((), (), (((3,), (3,), ("number", 1)),)))
RIGHT = {"library": COUNTER, "slots": (0,), "history": HISTORY, "choice": CHOICE, "limit": 400, "world": WORLD}
ERRORS = {"library": NoLibrary, "slots": NoSlots, "history": NoHistory, "choice": NoChoice, "limit": NoLimit, "world": NoWorld}
NAMES = {told: ["library", "slots", "history", "choice"], worlds: ["library", "slots", "history", "choice"],
         renumbered: ["library", "slots", "choice", "world"], compare: ["library", "slots", "choice", "limit"],
         shows: ["library", "slots", "choice", "limit", "thing"], is_choice: ["library", "thing"]}
# What is none of the kind, also for any other argument that is right.
NONE = {
    "library": NO_LIBRARIES, "slots": NO_SLOTS,
    "history": [None, True, False, 0, "", (), tuple(HISTORY), {}, [None], [0], [[]], HISTORY + [("drop", 1)],
                [("drop", False)], [("drop", 0, 0)], [["drop", 0]], [call(3)], [call(0, k=1)], [call(1, 1)], [call(1)],
                [call(1, 0, k=0)], [("call", True, (0,), None)], [("call", 1, [0], None)], [("drop", 0)] * 61],
    "choice": [None, True, 0, "", (), [], {}, (None, None), (None,) * 4, list(CHOICE), (None, None, ()), (None, None, 0),
               (None, None, ("thing", "shared", 0, 0, ())), (None, None, ("thing", "shared", 0, 4, ())),
               (None, None, ("thing", "shared", False, 1, ())), (None, None, ("thing", "shared", 0, True, ())),
               (None, None, ("thing", "shared", 0, 1, ((0, 1),))), (None, None, ("thing", "shared", 0, 1, []))],
    "limit": [None, True, False, 0, -1, 401, 10 ** 20, -10 ** 20, "", "1", (), (1,), [1], {1: 1}],
    "world": [None, True, False, 0, "", (), [], {}, list(WORLD), WORLD[:2], WORLD + ((),), (None, (), ()),
              ((3,), (), WORLD[2]), ((3,), WORLD[1], ((), ())), ((None,), (), WORLD[2])],
}


def right(function, **others):
    some = {name: copy.deepcopy(RIGHT[name]) for name in NAMES[function] if name != "thing"}
    if function is is_choice:
        some["thing"] = CHOICE
    if function is shows:
        some["thing"] = compare(COUNTER, (0,), CHOICE, 400)
    return {**some, **others}


class TestArguments(unittest.TestCase):
    def refuses(self, error, function, **others):
        some = right(function, **others)
        before = copy.deepcopy(some)
        for way in (lambda: function(**some), lambda: function(*[some[name] for name in NAMES[function]])):
            with self.assertRaises(error, msg=(function, others)) as caught:
                way()
            self.assertIs(type(caught.exception), error)
        self.assertEqual(some, before)

    def test_all_by_their_names_and_by_place(self):
        for function, names in NAMES.items():
            self.assertEqual(list(inspect.signature(function).parameters), names)
            some = right(function)
            told_so = function(*[some[name] for name in names])
            for order in itertools.permutations(names):
                self.assertEqual(function(**{name: some[name] for name in order}), told_so)

    def test_one_that_is_none(self):
        for function, names in NAMES.items():
            for name in names:
                for bad in NONE.get(name, []):
                    self.refuses(ERRORS[name], function, **{name: bad})

    def test_several_that_are_none(self):
        for function, names in NAMES.items():
            some = [name for name in names if name != "thing"]
            for many in range(2, len(some) + 1):
                for bad in itertools.combinations(some, many):
                    for at in range(12):
                        others = {name: NONE[name][at % len(NONE[name])] for name in bad}
                        self.refuses(ERRORS[bad[0]], function, **others)

    def test_no_thing_is_an_error(self):
        for thing in NO_LIBRARIES + NO_SLOTS + [value for values in NONE.values() for value in values]:
            self.assertIs(shows(**right(shows, thing=thing)), False)
            self.assertIs(is_choice(COUNTER, thing), False)

    def test_what_is_right_for_another_library_is_none_here(self):
        # BOXES has two kinds, five functions, and fields that COUNTER has not.
        choice = choice_with(BOXES, f1=marks("thing", clears=((1, 1),)))
        self.assertIs(is_choice(BOXES, choice), True)
        for function in (told, worlds, renumbered, compare, shows):
            self.refuses(NoChoice, function, choice=choice)
            self.refuses(NoChoice, function, choice=choice[:3])
            self.refuses(NoSlots, function, slots=(1,), choice=choice)
            self.refuses(NoChoice, function, library=BOXES, **({"history": [call(0, k=None)]} if function in (told, worlds) else {}))
        self.refuses(NoHistory, told, slots=())
        self.refuses(NoHistory, worlds, slots=(), choice=choice)
        self.refuses(NoWorld, renumbered, slots=())
        self.refuses(NoWorld, renumbered, slots=(0, 0))
        self.refuses(NoWorld, renumbered, choice=(None, None, None))

    def test_no_call_changes_what_it_is_passed(self):
        for function in NAMES:
            some = right(function)
            before = copy.deepcopy(some)
            function(**some)
            self.assertEqual(some, before)

    def test_later_changes_of_what_was_passed_mean_nothing(self):
        history = list(HISTORY)
        first = told(COUNTER, (0,), history, CHOICE)
        both = worlds(COUNTER, (0,), history, CHOICE)
        wanted = copy.deepcopy((first, both))
        history.clear()
        self.assertEqual((first, both), wanted)

    def test_lists_and_dicts_are_new(self):
        for function in (told, worlds, renumbered, compare):
            for choice in (CHOICE, (None, None, ("thing", "shared", 0, 1, ((0, 0),)))):
                for limit in (2, 400):
                    some = right(function, choice=choice, **({"limit": limit} if function is compare else {}))
                    one, other = function(**some), function(**some)
                    self.assertEqual(one, other)
                    wanted = copy.deepcopy(other)
                    made = [value for value in one + other if isinstance(value, (list, dict))]
                    self.assertEqual(len({id(value) for value in made}), len(made))
                    self.assertFalse([value for value in made for given in some.values() if value is given])
                    for value in one:
                        if isinstance(value, (list, dict)):
                            value.clear()
                    self.assertEqual(other, wanted)
                    self.assertEqual(function(**some), wanted)

    def test_equal_calls_have_equal_results(self):
        for function in NAMES:
            self.assertEqual(function(**right(function)), function(**right(function)))
