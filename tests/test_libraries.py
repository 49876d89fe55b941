import copy
import itertools
import unittest

from keptcalls import libraries
from keptcalls.errors import NoLibrary
from keptcalls.libraries import is_library
from tests.samples import BOX, COUNTER, EMPTY, NO_LIBRARIES, PAIR, at_path, positions, replaced

KINDS = ((None,), (None, 0))
# Numbers are 0 and 1, things of kind 0 are 2 and 3, things of kind 1 are 4 and 5.
VARIABLES = (None, None, 0, 0, 1, 1)
NUMBERS, FIRSTS, SECONDS = (0, 1), (2, 3), (4, 5)
THINGS = [None, True, False, 0, 1, -1, 5, 10 ** 20, -10 ** 20, "", "number", "x" * 1000, (), [], {}, (None,), [None],
          ((),), ((((((((0,),),),),),),),), {"a": [1, (2,)]}, {(True, 1): False}, (0,) * 2000, [()] * 2000]


def function(body, parameters=0, variables=VARIABLES, result=None):
    return (parameters, variables, result, body)


def library(*functions, modulus=3, kinds=KINDS, exported=()):
    return (modulus, kinds, functions, exported)


def body_of(many):
    return (("number", 0, 0),) * many


class LibraryTest(unittest.TestCase):
    def holds(self, *things):
        for thing in things:
            self.assertIs(is_library(thing), True, thing)

    def fails(self, *things):
        for thing in things:
            self.assertIs(is_library(thing), False, thing)

    def accepts(self, instructions, **head):
        for row in instructions:
            self.holds(library(function((row,), **head)))

    def refuses(self, instructions, **head):
        for row in instructions:
            self.fails(library(function((row,), **head)))


class TestWhole(LibraryTest):
    def test_the_interface(self):
        self.assertEqual(is_library.__module__, "keptcalls.libraries")
        self.assertIs(is_library(thing=COUNTER), True)
        self.assertIs(is_library(thing=0), False)
        self.assertEqual(libraries.NoLibrary, NoLibrary)

    def test_the_examples_of_the_document(self):
        self.holds(COUNTER, PAIR, BOX)

    def test_things_that_are_nothing_of_the_kind(self):
        self.fails(*NO_LIBRARIES)
        self.fails(*THINGS)

    def test_parts_left_out_and_put_in(self):
        for at in range(4):
            self.fails(COUNTER[:at] + COUNTER[at + 1:], COUNTER[:at] + (COUNTER[at],) + COUNTER[at:])

    def test_the_modulus(self):
        for modulus in (2, 3, 4):
            self.holds(library(modulus=modulus))
        self.fails(*[library(modulus=modulus) for modulus in (-2, 0, 1, 5, True, False, None, "2", (2,), 10 ** 20)])

    def test_no_call_changes_what_it_was_passed(self):
        mixed = (3, [(None,)], [{"a": [1]}], {"b": []})
        for thing in [COUNTER, BOX, mixed, list(BOX), [list(BOX)]]:
            before = copy.deepcopy(thing)
            is_library(thing)
            self.assertEqual(thing, before)

    def test_equal_calls_return_equal_results(self):
        for thing in THINGS + [COUNTER, BOX]:
            self.assertIs(is_library(thing), is_library(copy.deepcopy(thing)))


class TestChanged(LibraryTest):
    """One place of a library changed at a time."""

    def test_booleans_where_integers_are_asked(self):
        for sample in (COUNTER, PAIR, BOX):
            for path in positions(sample):
                self.fails(replaced(sample, path, True), replaced(sample, path, False))

    def test_lists_where_tuples_are_asked(self):
        for sample in (COUNTER, PAIR, BOX, EMPTY):
            for path in positions(sample):
                part = at_path(sample, path)
                if isinstance(part, tuple):
                    self.fails(replaced(sample, path, list(part)))

    def test_what_can_stand_nowhere(self):
        for path in positions(BOX):
            for thing in (-1, 10, 10 ** 20, -10 ** 20, "", "x", "Number", [], {}, {0: 0}, [0], ("x",), ((),), (None,) * 9):
                self.fails(replaced(BOX, path, thing))

    def test_anything_anywhere_raises_no_error(self):
        for path in positions(BOX):
            for thing in THINGS:
                self.assertIsInstance(is_library(replaced(BOX, path, thing)), bool)

    def test_parts_of_functions_and_instructions_left_out_and_put_in(self):
        functions = [(2, f) for f in range(5)]
        instructions = [path for path in positions(BOX) if len(path) == 4 and path[2] == 3]
        self.assertEqual(len(instructions), 6 + 2 + 3 + 2 + 6)
        for path in functions + instructions:
            part = at_path(BOX, path)
            for at in range(len(part)):
                self.fails(replaced(BOX, path, part[:at] + part[at + 1:]))
                self.fails(replaced(BOX, path, part[:at] + (part[at],) + part[at:]))
            self.fails(replaced(BOX, path, part + (0,)), replaced(BOX, path, part + (None,)))


class TestKinds(LibraryTest):
    def test_one_and_two(self):
        self.holds(library(kinds=((),)), library(kinds=((), ())), library(kinds=((None,), (0,))))

    def test_none_and_three(self):
        self.fails(library(kinds=()), library(kinds=((), (), ())))

    def test_fields(self):
        self.holds(library(kinds=((None, None), ())), library(kinds=((), (None, None))))
        self.holds(library(kinds=((), (0, 0))), library(kinds=((), (None, 0))), library(kinds=((), (0, None))))
        self.fails(library(kinds=((None,) * 3,)), library(kinds=((), (None,) * 3)), library(kinds=((), (0,) * 3)))

    def test_a_field_of_kind_0_has_no_thing(self):
        self.fails(library(kinds=((0,),)), library(kinds=((0,), ())), library(kinds=((None, 0),)))

    def test_a_field_of_kind_1_has_nothing_but_a_number_or_a_thing_of_kind_0(self):
        self.fails(*[library(kinds=((), (field,))) for field in (1, -1, 2, True, False, "0", (), [], (0,))])

    def test_other_things(self):
        self.fails(*[library(kinds=kinds) for kinds in (None, 0, 1, "a", "ab", [()], {(): ()}, (None,), ([],), ("",))])


class TestFunctions(LibraryTest):
    def test_none_and_five_and_six(self):
        self.holds(EMPTY, library(), library(*[function(())] * 5), library(*[function(())] * 5, exported=(0, 1, 2, 3, 4)))
        self.fails(library(*[function(())] * 6), library(*[function(())] * 6, exported=(0, 1)))

    def test_parameters(self):
        for many in (0, 1, 2):
            self.holds(library(function((), many)))
        self.fails(*[library(function((), many)) for many in (-1, 3, 6, True, False, None, "0", (0,))])

    def test_more_parameters_than_variables(self):
        self.holds(library(function((), 0, ())), library(function((), 1, (0,))), library(function((), 2, (0, None))))
        self.fails(library(function((), 1, ())), library(function((), 2, (0,))), library(function((), 2, ())))

    def test_variables(self):
        self.holds(library(function((), 0, ())), library(function((), 0, (None,) * 6)), library(function((), 0, (1,) * 6)))
        self.fails(library(function((), 0, (None,) * 7)), library(function((), 2, (0,) * 7)))

    def test_sorts(self):
        for sort in (None, 0, 1):
            self.holds(library(function((), 0, (sort,))), library(function((), 0, (), sort)))
        for sort in (-1, 2, True, False, "", "0", (), (0,), [], {}):
            self.fails(library(function((), 0, (sort,))), library(function((), 0, (), sort)))

    def test_a_sort_is_a_kind_of_this_library(self):
        self.holds(library(function((), 0, (0,), 0), kinds=((),)))
        self.fails(library(function((), 0, (1,)), kinds=((),)), library(function((), 0, (), 1), kinds=((),)))

    def test_instructions(self):
        self.holds(*[library(function(body_of(many))) for many in (0, 1, 7, 8)])
        self.fails(library(function(body_of(9))), library(function(body_of(20))))

    def test_each_function_is_looked_at(self):
        good, bad = function(()), function((("fail", 10),))
        for at in range(5):
            rows = [good] * 5
            self.holds(library(*rows))
            rows[at] = bad
            self.fails(library(*rows))
            rows[at] = None
            self.fails(library(*rows))

    def test_other_things(self):
        self.fails(*[(3, KINDS, thing, ()) for thing in (None, 0, "", "a", [], {}, [function(())], {0: function(())})])
        self.fails(*[library(thing) for thing in (None, 0, "abcd", (), [], {}, list(function(())), (0, (), None))])


class TestExported(LibraryTest):
    def test_ascending_numbers_of_functions(self):
        rows = [function(())] * 3
        for many in range(4):
            for exported in itertools.combinations(range(3), many):
                self.holds(library(*rows, exported=exported))

    def test_not_ascending_and_twice(self):
        rows = [function(())] * 3
        self.fails(*[library(*rows, exported=row) for row in [(1, 0), (2, 0), (0, 2, 1), (0, 0), (1, 1), (0, 1, 1)]])

    def test_no_such_function(self):
        rows = [function(())] * 3
        self.fails(*[library(*rows, exported=row) for row in [(3,), (-1,), (0, 3), (-1, 0), (0, 1, 2, 3)]])
        self.fails(library(exported=(0,)))

    def test_other_things(self):
        rows = [function(())] * 3
        for row in [None, 0, True, "0", [], [0], {}, {0: 0}, (None,), (True,), (False,), (False, 1), (0, True), ("0",)]:
            self.fails(library(*rows, exported=row))


class TestInstructions(LibraryTest):
    def test_which_pass_is_just_what_the_sorts_allow(self):
        kinds = (FIRSTS, SECONDS)
        allowed = {
            "number": {(s, c) for s in NUMBERS for c in (0, 1, 2)},
            "add": {(s, c) for s in NUMBERS for c in (0, 1, 2)},
            "copy": {(s, t) for names in (NUMBERS,) + kinds for s in names for t in names},
            "make": {(s,) for s in FIRSTS + SECONDS},
            "get": {(s, t, 0) for s in NUMBERS for t in FIRSTS + SECONDS} | {(s, t, 1) for s in FIRSTS for t in SECONDS},
            "put": {(t, 0, u) for u in NUMBERS for t in FIRSTS + SECONDS} | {(t, 1, u) for u in FIRSTS for t in SECONDS},
            "same": {(s, t, u) for s in NUMBERS for names in kinds for t in names for u in names},
            "if": {(s, 1) for s in range(6)},
            "jump": {(1,)},
            "call": set(),
            "return": {(0,), (1,)},
            "fail": {(e,) for e in range(10)},
        }
        for word, rows in allowed.items():
            for many, beyond in ((0, 0), (1, 12), (2, 12), (3, 8), (4, 3)):
                for row in itertools.product(range(-1, beyond), repeat=many):
                    self.assertIs(is_library(library(function(((word,) + row,)))), row in rows, (word, row))

    def test_integers_are_no_booleans_and_nothing_else(self):
        good = [("number", 0, 1), ("add", 1, 1), ("copy", 1, 0), ("make", 3), ("get", 1, 4, 0), ("put", 4, 1, 2),
                ("same", 1, 4, 5), ("if", 1, 1), ("jump", 1), ("return", 1), ("fail", 1)]
        self.accepts(good)
        for row in good:
            for at in range(1, len(row)):
                for thing in (True, False, None, "0", "", (), (0,), [], [0], {}):
                    self.refuses([row[:at] + (thing,) + row[at + 1:]])

    def test_other_words(self):
        self.refuses([("",), ("Number", 0, 0), ("number ", 0, 0), ("raise", 0), (0, 0, 0), (None, 0), (True, 0),
                      (("make",), 2), (["make"], 2), ({}, 2), (10 ** 20,)])

    def test_no_instructions_at_all(self):
        self.refuses([None, True, 0, "make", "jump", (), [], {}, ["make", 2], {"make": 2}, ("make",), ((),)])

    def test_numbers_are_below_the_modulus(self):
        for modulus in (2, 3, 4):
            for word in ("number", "add"):
                for c in range(-1, 6):
                    thing = library(function(((word, 0, c),)), modulus=modulus)
                    self.assertIs(is_library(thing), 0 <= c < modulus)

    def test_variables_are_those_of_this_function(self):
        for many in range(1, 7):
            self.accepts([("number", many - 1, 0), ("copy", many - 1, 0)], variables=(None,) * many)
            self.refuses([("number", many, 0), ("copy", many, 0), ("copy", 0, many)], variables=(None,) * many)
        self.accepts([("fail", 0)], variables=())
        self.refuses([("number", 0, 0), ("return", 0), ("if", 0, 1), ("make", 0)], variables=())

    def test_fields_are_those_of_the_kind(self):
        for kinds in itertools.product([(), (None,), (None, None)], [(), (0,), (None,), (0, None), (None, 0), (0, 0)]):
            for t, i, s in itertools.product(range(6), range(3), range(6)):
                kind = VARIABLES[t]
                allowed = kind is not None and i < len(kinds[kind]) and kinds[kind][i] == VARIABLES[s]
                for row in (("get", s, t, i), ("put", t, i, s)):
                    self.assertIs(is_library(library(function((row,)), kinds=kinds)), allowed, (kinds, row))

    def test_returns_are_of_the_sort_of_the_result(self):
        for result, names in ((None, NUMBERS), (0, FIRSTS), (1, SECONDS)):
            for t in range(6):
                self.assertIs(is_library(library(function((("return", t),), result=result))), t in names)

    def test_errors(self):
        self.accepts([("fail", 0), ("fail", 9)])
        self.refuses([("fail", -1), ("fail", 10), ("fail", True), ("fail", None)])


class TestPlaces(LibraryTest):
    def test_later_places_and_the_end(self):
        for many in range(1, 9):
            for place in range(many):
                for k in range(-2, 11):
                    for row in (("jump", k), ("if", 0, k), ("if", 5, k)):
                        body = body_of(place) + (row,) + body_of(many - place - 1)
                        self.assertIs(is_library(library(function(body))), place < k <= many, (many, place, row))

    def test_other_things(self):
        for k in (True, None, "1", (1,), [1]):
            self.fails(library(function((("jump", k), ("jump", 2)))), library(function((("if", 0, k), ("jump", 2)))))


class TestCalls(LibraryTest):
    CALLED = function((), 2, (None, 0), 1)

    def calling(self, row):
        return library(function((row,)), self.CALLED)

    def test_a_later_function(self):
        rows = [function(())] * 5
        for f, g in itertools.product(range(5), range(-1, 7)):
            calling = rows[:f] + [function((("call", 0, g, ()),))] + rows[f + 1:]
            self.assertIs(is_library(library(*calling)), f < g < 5, (f, g))

    def test_a_function_that_is_not_exported(self):
        rows = function((("call", 0, 1, ()),)), function(())
        for exported in [(), (0,), (1,), (0, 1)]:
            self.holds(library(*rows, exported=exported))

    def test_arguments_and_the_result_are_of_their_sorts(self):
        for s, first, second in itertools.product(range(-1, 7), repeat=3):
            allowed = s in SECONDS and first in NUMBERS and second in FIRSTS
            self.assertIs(is_library(self.calling(("call", s, 1, (first, second)))), allowed, (s, first, second))

    def test_too_few_and_too_many_arguments(self):
        self.holds(self.calling(("call", 4, 1, (0, 2))))
        for args in [(), (0,), (2,), (0, 2, 0), (0, 2, 2), (0, 2) * 1000]:
            self.fails(self.calling(("call", 4, 1, args)))
        self.holds(library(function((("call", 0, 1, ()),)), function((), 0)))
        self.fails(library(function((("call", 0, 1, (0,)),)), function((), 0)))

    def test_variables_that_are_no_parameters_are_not_passed(self):
        called = function((), 1, (None, None, 0))
        self.holds(library(function((("call", 0, 1, (0,)),)), called))
        self.fails(library(function((("call", 0, 1, (0, 1)),)), called))
        self.fails(library(function((("call", 0, 1, (0, 1, 2)),)), called))

    def test_other_things(self):
        for g in (True, None, "1", (1,)):
            self.fails(self.calling(("call", 4, g, (0, 2))))
        for args in [None, 0, "", "02", [0, 2], {}, (0, True), (False, 2), (None, 2), (0, None), ((0,), 2), ([], 2)]:
            self.fails(self.calling(("call", 4, 1, args)))
        for s in (True, None, "4", (4,)):
            self.fails(self.calling(("call", s, 1, (0, 2))))


class TestSteps(LibraryTest):
    def calls(self, many, g):
        return (("call", 0, g, ()),) * many

    def test_just_48_and_just_49_by_calls(self):
        eight = function(body_of(8))
        self.holds(library(function(self.calls(5, 1) + body_of(3)), eight))
        one = function(body_of(1))
        self.fails(library(function(self.calls(5, 1) + self.calls(1, 2) + body_of(2)), eight, one))
        self.holds(library(function(self.calls(5, 1) + self.calls(1, 2) + body_of(1)), eight, one))

    def test_just_48_and_just_49_by_calls_of_calls(self):
        for last, told in ((0, True), (1, False)):
            thing = library(
                function(self.calls(4, 2) + self.calls(1, 1) + body_of(3)), function(self.calls(1, 3) + body_of(7)),
                function(body_of(8)), function(body_of(last)), exported=(0,))
            self.assertIs(is_library(thing), told)

    def test_a_function_called_by_several_counts_for_each(self):
        rows = [function(self.calls(2, 1)), function(self.calls(2, 2)), function(self.calls(2, 3)), function(())]
        self.holds(library(*rows[:3], function(body_of(4))))
        self.fails(library(*rows[:3], function(body_of(5))))

    def test_functions_that_are_not_exported_count_too(self):
        long = function(self.calls(6, 2)), function(body_of(8))
        for exported in [(), (0,), (0, 1, 2)]:
            self.fails(library(function(()), *long, exported=exported))

    def test_calls_that_no_way_leads_to_count_too(self):
        rows = function(self.calls(5, 2)), function(body_of(8))
        self.fails(library(function((("jump", 3), ("call", 0, 1, ()), ("call", 0, 2, ()))), *rows))

    def test_far_beyond(self):
        self.fails(library(*[function(self.calls(8, f + 1)) for f in range(4)], function(body_of(8))))
