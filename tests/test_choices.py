import copy
import itertools
import unittest

from keptcalls.errors import NoLibrary
from keptcalls.rooms import is_choice
from tests.samples import BOX, COUNTER, EMPTY, NO_LIBRARIES, PAIR, at_path, positions, replaced

GOOD = ("thing", "shared", 0, 1, ((0, 0),))
# The kinds of BOX are ((None,), (None, 0)).
PLACES = [(0, 0), (1, 0), (1, 1)]
THINGS = [None, True, False, 0, 1, -1, 4, 10 ** 20, "", "name", "x" * 1000, (), [], {}, (None,), [None], {"name": 1},
          ((((()),),),), (0,) * 2000, [[0] * 2000], {(True, 1): False}]


def choice(settings):
    return (None, None, settings)


class ChoiceTest(unittest.TestCase):
    def holds(self, *some):
        for settings in some:
            self.assertIs(is_choice(COUNTER, choice(settings)), True, settings)

    def fails(self, *some):
        for settings in some:
            self.assertIs(is_choice(COUNTER, choice(settings)), False, settings)


class TestChoices(ChoiceTest):
    def test_the_interface(self):
        self.assertEqual(is_choice.__module__, "keptcalls.rooms")
        self.assertIs(is_choice(library=COUNTER, thing=choice(GOOD)), True)
        self.assertIs(is_choice(thing=choice(0), library=COUNTER), False)

    def test_all_settings_of_a_library(self):
        clears = [row for many in range(4) for row in itertools.combinations(PLACES, many)]
        self.assertEqual(len(clears), 8)
        for settings in itertools.product(("name", "thing", "content"), ("shared", "copied"), (0, 1), (1, 2, 3), clears):
            self.assertIs(is_choice(BOX, (None, settings, None, settings, None)), True, settings)

    def test_some_all_and_no_function_are_plain(self):
        for some in itertools.product((None, GOOD, ("name", "copied", 1, 3, ())), repeat=3):
            self.assertIs(is_choice(COUNTER, some), True)

    def test_one_for_each_function(self):
        for library in (COUNTER, PAIR, BOX, EMPTY):
            for many in range(8):
                self.assertIs(is_choice(library, (None,) * many), many == len(library[2]))
                self.assertIs(is_choice(library, (("name", "shared", 0, 1, ()),) * many), many == len(library[2]))

    def test_each_one_is_looked_at(self):
        for f in range(5):
            some = [("content", "copied", 1, 2, ((1, 1),))] * 5
            self.assertIs(is_choice(BOX, tuple(some)), True)
            some[f] = ("content", "copied", 1, 4, ((1, 1),))
            self.assertIs(is_choice(BOX, tuple(some)), False)

    def test_settings_are_no_choice(self):
        for thing in (GOOD, (GOOD,), (GOOD, GOOD), (GOOD,) * 4, [None, None, GOOD], {0: None, 1: None, 2: GOOD}):
            self.assertIs(is_choice(COUNTER, thing), False)

    def test_things_that_are_nothing_of_the_kind(self):
        for thing in THINGS:
            self.assertIs(is_choice(COUNTER, thing), False)
            if thing is not None:
                self.fails(thing)
        self.assertIs(is_choice(EMPTY, ()), True)
        for thing in THINGS:
            self.assertIs(is_choice(EMPTY, thing), thing == () and isinstance(thing, tuple))

    def test_no_library(self):
        for library in NO_LIBRARIES:
            for thing in (choice(GOOD), None, 0, ()):
                with self.assertRaises(NoLibrary) as caught:
                    is_choice(library, thing)
                self.assertIs(type(caught.exception), NoLibrary)

    def test_nothing_passed_is_changed(self):
        things = [choice(GOOD), [None, None, GOOD], {0: [GOOD]}, choice(list(GOOD))]
        before = copy.deepcopy((COUNTER, things))
        told = [is_choice(COUNTER, thing) for thing in things + things]
        self.assertEqual(told, [True, False, False, False] * 2)
        self.assertEqual((COUNTER, things), before)


class TestSettings(ChoiceTest):
    def test_parts_left_out_and_put_in(self):
        for at in range(5):
            self.fails(GOOD[:at] + GOOD[at + 1:], GOOD[:at] + (None,) + GOOD[at:], GOOD[:at] + (None,) + GOOD[at + 1:])
        self.fails((), (GOOD,), GOOD + ((),), GOOD[:1], GOOD[::-1])

    def test_keys(self):
        self.holds(*[(key,) + GOOD[1:] for key in ("name", "thing", "content")])
        self.fails(*[(key,) + GOOD[1:] for key in ("Name", "names", "nam", "", "contents", "shared", "copied", 0, None, True,
                                                  ("name",), ["name"], {"name": 1})])

    def test_results(self):
        self.holds(*[GOOD[:1] + (result,) + GOOD[2:] for result in ("shared", "copied")])
        self.fails(*[GOOD[:1] + (result,) + GOOD[2:] for result in ("Shared", "copy", "", "thing", 0, None, True, (), [])])

    def test_errors(self):
        self.holds(*[GOOD[:2] + (errors,) + GOOD[3:] for errors in (0, 1)])
        self.fails(*[GOOD[:2] + (errors,) + GOOD[3:] for errors in (2, -1, True, False, None, "0", (), (0,), 10 ** 20)])

    def test_sizes(self):
        for size in range(-2, 10):
            self.assertIs(is_choice(COUNTER, choice(GOOD[:3] + (size,) + GOOD[4:])), 1 <= size <= 3, size)
        self.fails(*[GOOD[:3] + (size,) + GOOD[4:] for size in (True, False, None, "1", (1,), [], 10 ** 20)])

    def test_clears_are_of_the_library(self):
        for library, places in ((COUNTER, [(0, 0)]), (PAIR, [(0, 0), (0, 1)]), (BOX, PLACES)):
            for kind, field in itertools.product(range(-1, 4), repeat=2):
                some = (("name", "shared", 0, 1, ((kind, field),)),) * len(library[2])
                self.assertIs(is_choice(library, some), (kind, field) in places, (kind, field))

    def test_a_library_without_fields(self):
        library = (2, ((), ()), ((0, (), None, ()),), (0,))
        self.assertIs(is_choice(library, (("name", "shared", 0, 1, ()),)), True)
        for place in ((0, 0), (1, 0), (0, -1), (1, 1)):
            self.assertIs(is_choice(library, (("name", "shared", 0, 1, (place,)),)), False)

    def test_clears_are_ascending_and_different(self):
        for many in range(5):
            for clears in itertools.product(PLACES, repeat=many):
                told = is_choice(BOX, (None,) * 4 + (("name", "shared", 0, 1, clears),))
                self.assertIs(told, list(clears) == sorted(set(clears)), clears)

    def test_clears_are_tuples_of_pairs(self):
        self.holds(GOOD[:4] + ((),))
        self.fails(*[GOOD[:4] + (clears,) for clears in (
            None, 0, "", [], {}, [(0, 0)], {(0, 0): 1}, (0, 0), ((),), ((0,),), ((0, 0, 0),), ([0, 0],), ((0, 0), (0, 0)),
            ((False, 0),), ((0, False),), ((None, 0),), ((0, None),), (("0", 0),), ((0, "0"),), (None,), ("00",),
            (((0, 0),),), ((0, (0,)),), ((10 ** 20, 0),))])
        self.assertIs(is_choice(BOX, (("name", "shared", 0, 1, ((True, 1),)),) + (None,) * 4), False)
        self.assertIs(is_choice(BOX, (("name", "shared", 0, 1, ((1, True),)),) + (None,) * 4), False)

    def test_a_list_for_a_tuple_at_any_place(self):
        right = (None, ("name", "copied", 1, 3, ((0, 0), (1, 1))), None, None, ("content", "shared", 0, 1, ((1, 0),)))
        self.assertIs(is_choice(BOX, right), True)
        paths = [path for path in positions(right) if isinstance(at_path(right, path), tuple)]
        self.assertGreater(len(paths), 5)
        for path in paths:
            self.assertIs(is_choice(BOX, replaced(right, path, list(at_path(right, path)))), False, path)

    def test_booleans_and_other_things_at_any_place(self):
        right = (None, ("name", "copied", 1, 3, ((0, 0), (1, 1))), None, None, ("content", "shared", 0, 1, ((1, 0),)))
        for path in positions(right):
            here = at_path(right, path)
            for thing in (True, False, "no", 5, [], {}, (None,)):
                self.assertIs(is_choice(BOX, replaced(right, path, thing)), False, (path, thing))
            if isinstance(here, int):
                self.assertIs(is_choice(BOX, replaced(right, path, bool(here))), False)
