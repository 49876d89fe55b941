import copy
import itertools
import unittest

from keptcalls.errors import KeptError, NoLibrary, NoSlots
from keptcalls.users import deeds, is_history, is_slots
from tests.samples import BOX, COUNTER, EMPTY, NO_LIBRARIES, NO_SLOTS, PAIR

ALL_SLOTS = [(), (0,), (1,), (0, 0), (0, 1), (1, 0), (1, 1)]
NEW = ("call", 0, (), 0)
READ = ("call", 2, (0,), None)
# Function 0 of BOX has a parameter of kind 1 and a number, its result is of kind 0; function 2 is not exported.


class UserTest(unittest.TestCase):
    def holds(self, library, slots, *some):
        for deed in some:
            self.assertIs(is_history(library, slots, [deed]), True, deed)

    def fails(self, library, slots, *some):
        for deed in some:
            self.assertIs(is_history(library, slots, [deed]), False, deed)


class TestSlots(UserTest):
    def test_none_to_two(self):
        for slots in ALL_SLOTS:
            self.assertIs(is_slots(BOX, slots), True)

    def test_three(self):
        for slots in itertools.product((0, 1), repeat=3):
            self.assertIs(is_slots(BOX, slots), False)

    def test_kinds_of_this_library(self):
        for library, many in ((COUNTER, 1), (EMPTY, 1), (BOX, 2)):
            for kind in range(-1, 4):
                self.assertIs(is_slots(library, (kind,)), 0 <= kind < many)
                self.assertIs(is_slots(library, (0, kind)), 0 <= kind < many)

    def test_things_that_are_none(self):
        for thing in NO_SLOTS + [(0, None), (0, True), (False, 0), {(): 0}, (0,) * 2000, 10 ** 20, [(0,)]]:
            self.assertIs(is_slots(BOX, thing), False, thing)

    def test_no_library(self):
        for library in NO_LIBRARIES:
            for thing in [(), (0,), None, (9,)]:
                with self.assertRaises(NoLibrary):
                    is_slots(library, thing)

    def test_by_name(self):
        self.assertIs(is_slots(library=BOX, thing=(1,)), True)
        self.assertIs(is_slots(thing=(1,), library=COUNTER), False)

    def test_the_interface(self):
        for one in (is_slots, is_history, deeds):
            self.assertEqual(one.__module__, "keptcalls.users")


class TestHistories(UserTest):
    def test_none_to_sixty_deeds(self):
        for many, told in ((0, True), (1, True), (59, True), (60, True), (61, False), (100, False)):
            self.assertIs(is_history(COUNTER, (0,), [READ] * many), told)
            self.assertIs(is_history(COUNTER, (0,), [("drop", 0)] * many), told)
        self.assertIs(is_history(EMPTY, (), []), True)

    def test_a_tuple_and_other_things(self):
        for thing in [None, True, False, 0, "", "call", (), (NEW,), {}, {NEW: NEW}, NEW, 10 ** 20]:
            self.assertIs(is_history(COUNTER, (0,), thing), False, thing)

    def test_each_deed_is_looked_at(self):
        for at in range(60):
            history = [READ] * 60
            history[at] = ("drop", 1)
            self.assertIs(is_history(COUNTER, (0,), history), False)

    def test_deeds_that_are_none(self):
        self.fails(COUNTER, (0,), None, True, 0, "drop", "call", (), ("drop",), ("call",), ("drop", 0, 0), ("drop", 0, 0, 0),
                   ("call", 0), ("call", 0, ()), ("call", 0, (), 0, 0), ("Call", 0, (), 0), ("drops", 0), (0, 0, (), 0),
                   (None, 0), (True, 0), (["call"], 0, (), 0), ({}, 0), ["drop", 0], ["call", 0, (), 0], {"drop": 0},
                   ["call"], [], {}, (("call", 0, (), 0),))

    def test_drops(self):
        for slots in ALL_SLOTS:
            for k in range(-2, 4):
                self.assertIs(is_history(BOX, slots, [("drop", k)]), 0 <= k < len(slots))
        self.fails(BOX, (0, 1), *[("drop", k) for k in (None, True, False, "0", (), (0,), [], [0])])

    def test_functions_that_are_exported_and_that_are_not(self):
        self.holds(BOX, (1, 0), ("call", 0, (0, 0), 1), ("call", 1, (1, 1), None), ("call", 3, (), 0), ("call", 4, (0,), None))
        self.fails(BOX, (1, 0), ("call", 2, (1, 0), None))
        self.fails(PAIR, (0,), ("call", 3, (0,), None), ("call", 4, (0,), None))
        self.fails(BOX, (1, 0), *[("call", f, (), 0) for f in (-1, 5, -2, 10 ** 20, True, False, None, "3", (3,), [3])])
        self.fails(COUNTER, (0,), ("call", False, (), 0), ("call", True, (0,), None))
        self.fails(EMPTY, (0,), ("call", 0, (), None), ("call", 0, (), 0))

    def test_arguments_that_are_numbers(self):
        for c in range(-2, 6):
            self.assertIs(is_history(BOX, (), [("call", 4, (c,), None)]), 0 <= c < 3)
            self.assertIs(is_history(BOX, (1,), [("call", 0, (0, c), None)]), 0 <= c < 3)
        self.fails(BOX, (), *[("call", 4, (c,), None) for c in (True, False, None, "0", (), (0,), [])])

    def test_arguments_that_are_slots(self):
        self.holds(BOX, (0, 0), *[("call", 1, row, None) for row in itertools.product((0, 1), repeat=2)])
        self.holds(BOX, (0, 1), ("call", 0, (1, 2), None), ("call", 1, (0, 0), None))
        self.fails(BOX, (0, 1), ("call", 0, (0, 2), None), ("call", 1, (0, 1), None), ("call", 1, (1, 0), None))
        self.fails(BOX, (0, 0), *[("call", 1, (k, 0), None) for k in (-1, 2, True, False, None, "0", (0,), [])])
        self.fails(BOX, (0,), ("call", 1, (0, 1), None))
        self.fails(BOX, (), ("call", 1, (0, 0), None), ("call", 0, (0, 0), None))

    def test_too_few_and_too_many_arguments(self):
        self.fails(BOX, (0, 1), ("call", 1, (0,), None), ("call", 1, (0, 0, 0), None), ("call", 1, (), None),
                   ("call", 3, (0,), None), ("call", 4, (0, 0), None), ("call", 4, (0,) * 2000, None))
        self.fails(BOX, (0, 1), *[("call", 1, args, None) for args in (None, 0, "", "00", [], [0, 0], {}, {0: 0})])

    def test_slots_for_the_result(self):
        self.holds(BOX, (0, 1), ("call", 3, (), None), ("call", 3, (), 1), ("call", 0, (1, 0), 0))
        self.fails(BOX, (0, 1), ("call", 3, (), 0), ("call", 0, (1, 0), 1))
        self.holds(BOX, (1, 1), ("call", 3, (), 0), ("call", 3, (), 1))
        self.fails(BOX, (1, 1), *[("call", 3, (), k) for k in (-1, 2, True, False, "1", (), (0,), [])])
        self.fails(BOX, (), ("call", 3, (), 0))

    def test_numbers_are_let_go(self):
        self.holds(BOX, (0, 1), ("call", 4, (0,), None), ("call", 1, (0, 0), None))
        self.fails(BOX, (0, 1), *[("call", 4, (0,), k) for k in (-1, 0, 1, 2, True, False, "")])

    def test_no_library_and_no_slots(self):
        for thing in [[], None, [("drop", 9)]]:
            for library in NO_LIBRARIES:
                for slots in [(), (9,), None]:
                    with self.assertRaises(NoLibrary):
                        is_history(library, slots, thing)
            for slots in NO_SLOTS:
                with self.assertRaises(NoSlots):
                    is_history(BOX, slots, thing)

    def test_by_name(self):
        self.assertIs(is_history(library=COUNTER, slots=(0,), thing=[NEW]), True)
        self.assertIs(is_history(thing=[NEW], slots=(), library=COUNTER), False)

    def test_no_call_changes_what_it_was_passed(self):
        for thing in ([NEW, READ, ("drop", 0)], [["call", 0, [], {}]], {"a": [NEW]}, [NEW] * 61):
            library, slots, before = copy.deepcopy(COUNTER), (0,), copy.deepcopy(thing)
            is_history(library, slots, thing)
            is_slots(library, thing)
            self.assertEqual((library, slots, thing), (COUNTER, (0,), before))

    def test_a_history_is_looked_at_anew_each_time(self):
        history = [NEW]
        self.assertIs(is_history(COUNTER, (0,), history), True)
        history.append(("drop", 5))
        self.assertIs(is_history(COUNTER, (0,), history), False)


class TestDeeds(UserTest):
    def test_with_a_slot(self):
        self.assertEqual(deeds(COUNTER, (0,)), [
            ("call", 0, (), 0), ("call", 0, (), None), ("call", 1, (0,), None), ("call", 2, (0,), None), ("drop", 0)])

    def test_without_slots(self):
        self.assertEqual(deeds(COUNTER, ()), [("call", 0, (), None)])
        self.assertEqual(deeds(BOX, ()), [("call", 3, (), None)] + [("call", 4, (c,), None) for c in (0, 1, 2)])

    def test_without_functions(self):
        self.assertEqual(deeds(EMPTY, ()), [])
        self.assertEqual(deeds(EMPTY, (0, 0)), [("drop", 0), ("drop", 1)])

    def test_without_exported_functions(self):
        self.assertEqual(deeds(COUNTER[:3] + ((),), (0,)), [("drop", 0)])
        self.assertEqual(deeds(COUNTER[:3] + ((2,),), (0,)), [("call", 2, (0,), None), ("drop", 0)])

    def test_with_two_kinds(self):
        self.assertEqual(deeds(BOX, (1, 0)), [
            ("call", 0, (0, 0), 1), ("call", 0, (0, 0), None), ("call", 0, (0, 1), 1), ("call", 0, (0, 1), None),
            ("call", 0, (0, 2), 1), ("call", 0, (0, 2), None), ("call", 1, (1, 1), None), ("call", 3, (), 0),
            ("call", 3, (), None), ("call", 4, (0,), None), ("call", 4, (1,), None), ("call", 4, (2,), None),
            ("drop", 0), ("drop", 1)])

    def test_ascending_by_their_texts_each_once(self):
        for library in (COUNTER, PAIR, BOX, EMPTY):
            for slots in ALL_SLOTS:
                if is_slots(library, slots):
                    texts = [repr(deed) for deed in deeds(library, slots)]
                    self.assertEqual(texts, sorted(set(texts)))

    def test_texts_do_not_ascend_as_the_numbers_do(self):
        library = (2, ((),), ((1, (None,), None, ()), (0, (), 0, ())), (0, 1))
        self.assertEqual(deeds(library, (0, 0)), [
            ("call", 0, (0,), None), ("call", 0, (1,), None), ("call", 1, (), 0), ("call", 1, (), 1), ("call", 1, (), None),
            ("drop", 0), ("drop", 1)])

    def test_just_the_deeds_of_histories(self):
        things = (-1, 0, 1, 2, 3, None, True, False)
        rows = [row for many in range(4) for row in itertools.product(things, repeat=many)]
        calls = [("call", f, row, k) for f in (*range(-1, 6), True, False) for row in rows for k in things]
        drops = [("drop", k) for k in things]
        for library in (COUNTER, BOX):
            for slots in [(0,), (0, 0), (1, 0)]:
                if is_slots(library, slots):
                    found = [deed for deed in calls + drops if is_history(library, slots, [deed])]
                    self.assertEqual(deeds(library, slots), sorted(found, key=repr))

    def test_no_library_and_no_slots(self):
        for library in NO_LIBRARIES:
            for slots in [(), (9,), None]:
                with self.assertRaises(NoLibrary):
                    deeds(library, slots)
        for slots in NO_SLOTS:
            with self.assertRaises(NoSlots):
                deeds(BOX, slots)

    def test_errors_are_kept_errors_with_a_text(self):
        with self.assertRaises(KeptError) as caught:
            deeds(BOX, (9,))
        self.assertTrue(str(caught.exception))

    def test_each_answer_is_a_new_list(self):
        first = deeds(COUNTER, (0,))
        second = deeds(COUNTER, (0,))
        self.assertIsNot(first, second)
        first.clear()
        self.assertEqual(len(second), 5)
        self.assertEqual(deeds(COUNTER, (0,)), second)

    def test_by_name(self):
        self.assertEqual(deeds(library=COUNTER, slots=()), deeds(COUNTER, ()))
        self.assertEqual(deeds(slots=(0,), library=PAIR), deeds(PAIR, (0,)))

    def test_no_call_changes_what_it_was_passed(self):
        library, slots = copy.deepcopy(BOX), (1, 0)
        deeds(library, slots)
        self.assertEqual((library, slots), (BOX, (1, 0)))
