"""Of each function with a library: the error for the earliest argument, names of arguments, what is left unchanged."""

import copy
import inspect
import itertools
import unittest

from keptcalls.cheapest import best, cheapest_clears
from keptcalls.comparing import compare, shows
from keptcalls.errors import (NoChoice, NoFunction, NoHistory, NoLibrary, NoLimit, NoMenu, NoNumber, NoPrices, NoSlots,
                              NoWorld)
from keptcalls.rooms import is_choice, told
from keptcalls.texts import looks, passes
from keptcalls.turned import most_hits, neighbours
from keptcalls.worlds import renumbered, worlds
from tests.samples import BOXES, COUNTER, NO_LIBRARIES, NO_SLOTS, call, choice_with, marks

HISTORY = [call(0, k=0), call(2, 0), call(1, 0), call(2, 0)]
CHOICE = (None, None, ("thing", "shared", 0, 1, ()))
WORLD = ((3,), ((3, 0, (1,)),), ((), (), (((3,), (3,), ("number", 1)),)))
MENU = [[(None, 0)], [(None, 1)], [(CHOICE[2], 2), (None, 3)]]
RIGHT = {"library": COUNTER, "slots": (0,), "history": HISTORY, "choice": CHOICE, "limit": 400, "world": WORLD, "menu": MENU,
         "f": 2, "prices": {(0, 0): 5}, "many": 4}
ERRORS = {"library": NoLibrary, "slots": NoSlots, "history": NoHistory, "choice": NoChoice, "limit": NoLimit, "world": NoWorld,
          "menu": NoMenu, "f": NoFunction, "prices": NoPrices, "many": NoNumber}
NAMES = {told: ["library", "slots", "history", "choice"], worlds: ["library", "slots", "history", "choice"],
         renumbered: ["library", "slots", "choice", "world"], compare: ["library", "slots", "choice", "limit"],
         shows: ["library", "slots", "choice", "limit", "thing"], is_choice: ["library", "thing"],
         looks: ["library"], passes: ["library", "choice"], best: ["library", "slots", "menu", "limit"],
         cheapest_clears: ["library", "slots", "choice", "f", "prices", "limit"],
         neighbours: ["library", "slots", "choice", "limit"], most_hits: ["library", "slots", "choice", "many", "limit"]}
# What is none of the kind, also for any other argument that is right.
NONE = {
    "library": NO_LIBRARIES, "slots": NO_SLOTS,
    "history": [None, True, False, 0, "", (), tuple(HISTORY), {}, [None], [0], [[]], HISTORY + [("drop", 1)],
                [("drop", False)], [("drop", 0, 0)], [["drop", 0]], [call(3)], [call(0, k=1)], [call(1, 1)], [call(1)],
                [call(1, 0, k=0)], [("call", True, (0,), None)], [("call", 1, [0], None)], [("drop", 0)] * 61],
    "choice": [None, True, 0, "", (), [], {}, (None, None), (None,) * 4, list(CHOICE), (None, None, ()), (None, None, 0),
               (None, None, ("thing", "shared", 0, 0, ())), (None, None, ("thing", "shared", 0, 4, ())),
               (None, None, ("thing", "shared", False, 1, ())), (None, None, ("thing", "shared", 0, True, ())),
               (None, None, ("thing", "shared", 0, 1, ((0, 1),))), (None, None, ("thing", "shared", 0, 1, []))],
    "limit": [None, True, False, 0, -1, 401, 10 ** 20, -10 ** 20, "", "1", (), (1,), [1], {1: 1}],
    "world": [None, True, False, 0, "", (), [], {}, list(WORLD), WORLD[:2], WORLD + ((),), (None, (), ()),
              ((3,), (), WORLD[2]), ((3,), WORLD[1], ((), ())), ((None,), (), WORLD[2])],
    "menu": [None, True, 0, "", (), [], {}, tuple(MENU), MENU[:2], MENU + [[(None, 0)]], [[], [], []], MENU[:2] + [[None]],
             MENU[:2] + [((None, 0),)], MENU[:2] + [[(None, 100)]], MENU[:2] + [[(None, True)]], MENU[:2] + [[(None, 0)] * 2]],
    "f": [None, True, False, 0, 1, 3, -1, 10 ** 20, "2", (), (2,), [2], {}],
    "prices": [None, True, 0, "", (), [], {}, {(0, 0): 100}, {(0, 0): -1}, {(0, 0): True}, {(0, 0): None}, {(0, 1): 5}, {0: 5},
               {(0, 0): 5, (0, 1): 5}, {(0, 0): 5, (1, 0): 5}, [((0, 0), 5)]],
    "many": [None, True, False, -1, 7, 10 ** 20, "", "4", (), (4,), [4], {}],
}


def right(function, **others):
    some = {name: copy.deepcopy(RIGHT[name]) for name in NAMES[function] if name != "thing"}
    if function is is_choice:
        some["thing"] = CHOICE
    if function is shows:
        some["thing"] = compare(COUNTER, (0,), CHOICE, 400)
    return {**some, **others}


def made_in(value):
    """All lists and dicts in a value, itself among them, as often as they are there."""
    found = [value] if isinstance(value, (list, dict)) else []
    members = list(value.values()) if isinstance(value, dict) else value if isinstance(value, (list, tuple)) else ()
    for member in members:
        found += made_in(member)
    return found


class TestArguments(unittest.TestCase):
    def refuses(self, error, function, **others):
        some = right(function, **others)
        before = copy.deepcopy(some)
        for way in (lambda: function(**some), lambda: function(*[some[name] for name in NAMES[function]])):
            with self.assertRaises(error, msg=(function, others)) as caught:
                way()
            self.assertIs(type(caught.exception), error)
        self.assertEqual(some, before)

    def test_all_by_their_names_and_by_place(self):
        for function, names in NAMES.items():
            self.assertEqual(list(inspect.signature(function).parameters), names)
            some = right(function)
            told_so = function(*[some[name] for name in names])
            orders = list(itertools.permutations(names))
            for order in orders[:3] + orders[-20:]:
                self.assertEqual(function(**{name: some[name] for name in order}), told_so)

    def test_one_that_is_none(self):
        for function, names in NAMES.items():
            for name in names:
                for bad in NONE.get(name, []):
                    self.refuses(ERRORS[name], function, **{name: bad})

    def test_several_that_are_none(self):
        for function, names in NAMES.items():
            some = [name for name in names if name != "thing"]
            for many in range(2, len(some) + 1):
                for bad in itertools.combinations(some, many):
                    for at in range(12):
                        others = {name: NONE[name][at % len(NONE[name])] for name in bad}
                        self.refuses(ERRORS[bad[0]], function, **others)

    def test_no_thing_is_an_error(self):
        for thing in NO_LIBRARIES + NO_SLOTS + [value for values in NONE.values() for value in values]:
            self.assertIs(shows(**right(shows, thing=thing)), False)
            self.assertIs(is_choice(COUNTER, thing), False)

    def test_what_is_right_for_another_library_is_none_here(self):
        # BOXES has two kinds, five functions, and fields that COUNTER has not.
        choice = choice_with(BOXES, f1=marks("thing", clears=((1, 1),)))
        self.assertIs(is_choice(BOXES, choice), True)
        for function in (told, worlds, renumbered, compare, shows):
            self.refuses(NoChoice, function, choice=choice)
            self.refuses(NoChoice, function, choice=choice[:3])
            self.refuses(NoSlots, function, slots=(1,), choice=choice)
            self.refuses(NoChoice, function, library=BOXES, **({"history": [call(0, k=None)]} if function in (told, worlds) else {}))
        for function in (passes, neighbours, cheapest_clears, most_hits):
            self.refuses(NoChoice, function, choice=choice)
            self.refuses(NoChoice, function, choice=choice[:3])
            self.refuses(NoChoice, function, library=BOXES)
        for function in (neighbours, cheapest_clears, most_hits):
            self.refuses(NoSlots, function, slots=(1,), choice=choice)
        self.refuses(NoSlots, best, slots=(1,), menu=[])
        self.refuses(NoMenu, best, library=BOXES)
        self.refuses(NoPrices, cheapest_clears, library=BOXES, choice=choice_with(BOXES, f2=marks("thing")))
        self.refuses(NoFunction, cheapest_clears, choice=choice_with(COUNTER, f1=marks("thing")))
        self.refuses(NoHistory, told, slots=())
        self.refuses(NoHistory, worlds, slots=(), choice=choice)
        self.refuses(NoWorld, renumbered, slots=())
        self.refuses(NoWorld, renumbered, slots=(0, 0))
        self.refuses(NoWorld, renumbered, choice=(None, None, None))

    def test_no_call_changes_what_it_is_passed(self):
        for function in NAMES:
            some = right(function)
            before = copy.deepcopy(some)
            function(**some)
            self.assertEqual(some, before)

    def test_later_changes_of_what_was_passed_mean_nothing(self):
        history = list(HISTORY)
        first = told(COUNTER, (0,), history, CHOICE)
        both = worlds(COUNTER, (0,), history, CHOICE)
        wanted = copy.deepcopy((first, both))
        history.clear()
        self.assertEqual((first, both), wanted)

    def test_lists_and_dicts_are_new(self):
        for function, names in NAMES.items():
            for choice in (CHOICE, (None, None, ("thing", "shared", 0, 1, ((0, 0),)))):
                for limit in (2, 400):
                    others = {name: value for name, value in (("choice", choice), ("limit", limit)) if name in names}
                    some = right(function, **others)
                    one, other = function(**some), function(**some)
                    self.assertEqual(one, other)
                    wanted = copy.deepcopy(other)
                    made = made_in([one, other])[1:]
                    self.assertEqual(len({id(value) for value in made}), len(made))
                    self.assertFalse([value for value in made for given in made_in(list(some.values())) if value is given])
                    for value in made_in(one):
                        value.clear()
                    self.assertEqual(other, wanted)
                    self.assertEqual(function(**some), wanted)

    def test_equal_calls_have_equal_results(self):
        for function in NAMES:
            self.assertEqual(function(**right(function)), function(**right(function)))
