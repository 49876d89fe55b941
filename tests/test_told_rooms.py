import itertools
import unittest

from keptcalls.libraries import is_library
from keptcalls.rooms import is_choice, told
from keptcalls.users import is_history
from keptcalls.worlds import worlds
from tests.samples import (BUMP, COUNTER, GIVE, INNER, MAKE, MAKE_OUTER, PAIR, READ, SAME, WRITE, call, choice_with,
                           library_with, marks, plain)

NEXT = (1, (None,), None, (("add", 0, 1), ("return", 0)))
PAIRS = ((None,), (0, 0))


class RoomTest(unittest.TestCase):
    def tells(self, library, slots, history, choice, wanted, hits):
        self.valid(library, slots, history, choice)
        self.assertEqual(told(library, slots, history, choice), (wanted, hits))

    def hits(self, library, slots, history, choice, hits):
        self.valid(library, slots, history, choice)
        self.assertEqual(told(library, slots, history, choice)[1], hits)

    def valid(self, library, slots, history, choice):
        self.assertIs(is_library(library), True)
        self.assertIs(is_choice(library, choice), True)
        self.assertIs(is_history(library, slots, history), True)

    def world(self, library, slots, history, choice):
        self.valid(library, slots, history, choice)
        return worlds(library, slots, history, choice)[1]

    def room(self, library, slots, history, choice, f):
        return self.world(library, slots, history, choice)[2][f]

    def keys(self, library, slots, history, choice, f):
        return [entry[0] for entry in self.room(library, slots, history, choice, f)]


class TestKeys(RoomTest):
    def test_numbers(self):
        library = library_with(NEXT)
        for key in ("name", "thing", "content"):
            history = [call(0, 1), call(0, 1), call(0, 2), call(0, 1), call(0, 1)]
            self.tells(library, (), history, (marks(key),), [2, 2, 0, 2, 2], [0, 1, 0, 0, 1])
            self.assertEqual(self.room(library, (), history, (marks(key),), 0), (((1,), (), ("number", 2)),))

    def test_no_parameters(self):
        library = library_with((0, (None,), None, (("number", 0, 2), ("return", 0))))
        for key in ("name", "thing", "content"):
            self.tells(library, (), [call(0)] * 3, (marks(key),), [2, 2, 2], [0, 1, 1])
            self.assertEqual(self.room(library, (), [call(0)] * 3, (marks(key),), 0), (((), (), ("number", 2)),))

    def test_numbers_by_their_places(self):
        library = library_with((2, (None, None), None, (("if", 1, 2), ("return", 0), ("add", 0, 2), ("return", 0))))
        history = [call(0, a, b) for a, b in ((0, 1), (1, 0), (0, 1), (1, 0), (1, 1))]
        for key in ("name", "thing", "content"):
            self.tells(library, (), history, (marks(key, size=2),), [2, 1, 2, 1, 0], [0, 0, 1, 1, 0])
            self.assertEqual(self.keys(library, (), history, (marks(key, size=2),), 0), [(1, 0), (1, 1)])

    def test_empty(self):
        library = library_with((1, (0, None), None, (("if", 0, 2), ("number", 1, 1), ("return", 1))), MAKE)
        for key, name in (("name", 0), ("thing", 0), ("content", (0, 0))):
            # The thing has the name 0, and is another argument than EMPTY.
            history = [call(0, 0), call(0, 1), call(1, k=0), call(0, 0), call(0, 1)]
            choice = choice_with(library, f0=marks(key, size=3))
            self.tells(library, (0, 0), history, choice, [1, 1, None, 0, 1], [0, 1, 0, 0, 1])
            self.assertEqual(self.keys(library, (0, 0), history, choice, 0), [(None,), (name,)])

    def test_an_error_for_empty_is_a_result_too(self):
        library = library_with(READ)
        for key, errors in itertools.product(("name", "thing", "content"), (0, 1)):
            self.tells(library, (0,), [call(0, 0)] * 3, (marks(key, errors=errors),), [("error", 0)] * 3, [0, errors, errors])

    def test_two_things_of_one_content(self):
        library = library_with(MAKE, READ)
        history = [call(0, k=0), call(0, k=1), call(1, 0), call(1, 1), call(1, 0), call(1, 1)]
        for key, hits, keys in (("name", [0, 0, 1, 1], [(0,), (1,)]), ("thing", [0, 0, 1, 1], [(0,), (1,)]),
                                ("content", [0, 1, 1, 1], [((0, 0),)])):
            choice = choice_with(library, f1=marks(key, size=2))
            self.tells(library, (0, 0), history, choice, [None, None, 0, 0, 0, 0], [0, 0] + hits)
            self.assertEqual(self.keys(library, (0, 0), history, choice, 1), keys)

    def test_one_thing_of_other_contents(self):
        library = library_with(MAKE, READ, WRITE)
        history = [call(0, k=0), call(1, 0), call(2, 0, 2), call(1, 0), call(2, 0, 0), call(1, 0)]
        for key, numbers, hits, keys in (
                ("name", [0, 0, 0], [0, 1, 1], [(0,)]), ("thing", [0, 0, 0], [0, 1, 1], [(0,)]),
                ("content", [0, 2, 0], [0, 0, 1], [((0, 0),), ((0, 2),)])):
            choice = choice_with(library, f1=marks(key, size=3))
            self.tells(library, (0,), history, choice, [None, numbers[0], 0, numbers[1], 0, numbers[2]],
                       [0, hits[0], 0, hits[1], 0, hits[2]])
            self.assertEqual(self.keys(library, (0,), history, choice, 1), keys)

    def test_two_things_by_their_places(self):
        library = library_with(MAKE, (2, (0, 0, None), None, (("get", 2, 0, 0), ("return", 2))), WRITE)
        history = [call(0, k=0), call(0, k=1), call(2, 1, 2)] + [call(1, *args) for args in
                                                                ((0, 1), (1, 0), (1, 1), (0, 0), (0, 1), (0, 0))]
        for key, names in (("name", (0, 1)), ("thing", (0, 1)), ("content", ((0, 0), (0, 2)))):
            a, b = names
            choice = choice_with(library, f1=marks(key, size=3))
            self.tells(library, (0, 0), history, choice, [None, None, 0, 0, 2, 2, 0, 0, 0], [0] * 8 + [1])
            self.assertEqual(self.keys(library, (0, 0), history, choice, 1), [(b, b), (a, a), (a, b)])
            choice = choice_with(library, f1=marks(key, size=2))
            self.assertEqual(self.keys(library, (0, 0), history, choice, 1), [(a, a), (a, b)])

    def test_numbers_beside_things(self):
        library = library_with(MAKE, WRITE, READ)
        history = [call(0, k=0), call(1, 0, 0), call(1, 0, 1), call(1, 0, 1), call(2, 0)]
        for key, keys, hits in (("name", [(0, 0), (0, 1)], [0, 0, 1]), ("thing", [(0, 0), (0, 1)], [0, 0, 1]),
                                ("content", [((0, 0), 0), ((0, 0), 1), ((0, 1), 1)], [0, 0, 0])):
            choice = choice_with(library, f1=marks(key, size=3))
            self.tells(library, (0,), history, choice, [None, 0, 0, 0, 1], [0] + hits + [0])
            self.assertEqual(self.keys(library, (0,), history, choice, 1), keys)

    def test_values_of_things_within_things(self):
        read = (1, (1, None, 0), None, (("get", 2, 0, 1), ("if", 2, 3), ("return", 1), ("get", 1, 2, 0), ("return", 1)))
        library = library_with(MAKE_OUTER, read, INNER, WRITE, (0, (1,), 1, (("make", 0), ("return", 0))))
        choice = choice_with(library, f1=marks("content", size=3))
        history = [call(0, k=0), call(1, 0), call(2, 0, k=1), call(3, 1, 2), call(1, 0), call(0, k=0), call(1, 0),
                   call(4, k=0), call(1, 0), call(1, 0)]
        self.tells(library, (1, 0), history, choice, [None, 0, None, 0, 2, None, 0, None, 0, 0], [0] * 6 + [1, 0, 0, 1])
        self.assertEqual(self.keys(library, (1, 0), history, choice, 1), [((1, 0, (0, 0)),), ((1, 0, (0, 2)),),
                                                                         ((1, 0, None),)])

    def test_a_value_does_not_tell_one_thing_from_two(self):
        one = (0, (1, 0), 1, (("make", 0), ("make", 1), ("put", 0, 0, 1), ("put", 0, 1, 1), ("return", 0)))
        two = (0, (1, 0), 1, (("make", 0), ("make", 1), ("put", 0, 0, 1), ("make", 1), ("put", 0, 1, 1), ("return", 0)))
        same = (1, (1, 0, 0, None), None, (("get", 1, 0, 0), ("get", 2, 0, 1), ("same", 3, 1, 2), ("return", 3)))
        library = library_with(one, two, same, kinds=PAIRS)
        history = [call(0, k=0), call(1, k=1), call(2, 0), call(2, 1), call(2, 0)]
        self.tells(library, (1, 1), history, choice_with(library, f2=marks("content")), [None, None, 1, 1, 1], [0, 0, 0, 1, 1])
        self.tells(library, (1, 1), history, choice_with(library, f2=marks("thing", size=2)), [None, None, 1, 0, 1],
                   [0, 0, 0, 0, 1])
        choice = choice_with(library, f2=marks("content"))
        self.assertEqual(self.keys(library, (1, 1), history, choice, 2), [((1, (0, 0), (0, 0)),)])

    def test_values_tell_the_kinds(self):
        library = library_with((0, (0,), 0, (("make", 0), ("return", 0))), (0, (1,), 1, (("make", 0), ("return", 0))),
                               (2, (0, 1), None, ()), kinds=((None,), (None,)))
        choice = choice_with(library, f2=marks("content"))
        history = [call(0, k=0), call(1, k=1), call(2, 0, 1)]
        self.assertEqual(self.keys(library, (0, 1), history, choice, 2), [((0, 0), (1, 0))])

    def test_the_key_is_taken_when_the_call_begins(self):
        library = library_with(MAKE, (1, (0, None), None, (("get", 1, 0, 0), ("add", 1, 1), ("put", 0, 0, 1), ("return", 1))),
                               READ)
        choice = choice_with(library, f1=marks("content", size=3))
        history = [call(0, k=0), call(1, 0), call(1, 0), call(0, k=0), call(1, 0), call(2, 0)]
        # The last call of function 1 is a hit, so the new thing is not written.
        self.tells(library, (0,), history, choice, [None, 1, 2, None, 1, 0], [0, 0, 0, 0, 1, 0])
        self.assertEqual(self.keys(library, (0,), history, choice, 1), [((0, 0),), ((0, 1),)])


class TestResults(RoomTest):
    def test_a_shared_result_is_the_very_thing(self):
        library = library_with(MAKE, SAME, WRITE, READ)
        history = [call(0, k=0), call(0, k=1), call(1, 0, 1), call(2, 0, 2), call(3, 1), ("drop", 0), ("drop", 1),
                   call(0, k=0), call(3, 0)]
        for key in ("name", "thing", "content"):
            self.tells(library, (0, 0), history, choice_with(library, f0=marks(key)),
                       [None, None, 1, 0, 2, None, None, None, 2], [0, 1, 0, 0, 0, 0, 0, 1, 0])

    def test_a_copied_result_is_a_copy_on_the_call_and_on_each_hit(self):
        library = library_with(MAKE, SAME, WRITE, READ)
        history = [call(0, k=0), call(2, 0, 2), call(0, k=1), call(1, 0, 1), call(3, 1), call(2, 1, 1), call(3, 0),
                   call(0, k=1), call(3, 1), call(0, k=0), call(1, 0, 1)]
        for key in ("name", "thing", "content"):
            self.tells(library, (0, 0), history, choice_with(library, f0=marks(key, "copied")),
                       [None, 0, None, 0, 0, 0, 2, None, 0, None, 0], [0, 0, 1, 0, 0, 0, 0, 1, 0, 1, 0])

    def test_the_call_itself_returns_its_own_result(self):
        library = library_with(GIVE, MAKE, SAME)
        history = [call(1, k=0), call(0, 0, k=1), call(2, 0, 1), call(0, 0, k=1), call(2, 0, 1)]
        self.tells(library, (0, 0), history, choice_with(library, f0=marks("thing", "copied")),
                   [None, None, 1, None, 0], [0, 0, 0, 1, 0])
        self.tells(library, (0, 0), history, choice_with(library, f0=marks("thing", "shared")),
                   [None, None, 1, None, 1], [0, 0, 0, 1, 0])

    def test_names_of_copies(self):
        library = library_with(MAKE)
        choice = (marks("thing", "copied"),)
        # The result has the name 0, the copy in the entry 1; each hit gives a new copy of that one.
        first = [call(0, k=0)]
        self.assertEqual(self.world(library, (0, 0), first, choice),
                         ((0, None), ((0, 0, (0,)), (1, 0, (0,))), ((((), (), ("thing", 1)),),)))
        self.assertEqual(self.world(library, (0, 0), first + [call(0, k=1)], choice),
                         ((0, 2), ((0, 0, (0,)), (1, 0, (0,)), (2, 0, (0,))), ((((), (), ("thing", 1)),),)))
        self.assertEqual(self.world(library, (0, 0), first + [("drop", 0), call(0, k=1), call(0, k=0)], choice),
                         ((2, 0), ((0, 0, (0,)), (1, 0, (0,)), (2, 0, (0,))), ((((), (), ("thing", 1)),),)))
        self.assertEqual(self.world(library, (0, 0), [call(0), call(0)], choice),
                         ((None, None), ((1, 0, (0,)),), ((((), (), ("thing", 1)),),)))

    def test_a_copy_is_of_new_things_of_all_levels(self):
        library = library_with(MAKE_OUTER, INNER, WRITE, READ)
        choice = choice_with(library, f0=marks("name", "copied"))
        history = [call(0, k=0), call(1, 0, k=1), call(2, 1, 2), call(3, 1), call(0, k=0), call(1, 0, k=1), call(3, 1)]
        self.tells(library, (1, 0), history, choice, [None, None, 0, 2, None, None, 0], [0, 0, 0, 0, 1, 0, 0])
        # The thing itself has its name first, then the one in its field.
        self.assertEqual(self.world(library, (1, 0), [call(0, k=0)], choice),
                         ((0, None), ((0, 1, (0, 1)), (1, 0, (0,)), (2, 1, (0, 3)), (3, 0, (0,))),
                          ((((), (), ("thing", 2)),), (), (), ())))
        self.assertEqual(self.world(library, (1, 0), [call(0), call(0, k=0)], choice),
                         ((0, None), ((0, 1, (0, 1)), (1, 0, (0,)), (2, 1, (0, 3)), (3, 0, (0,))),
                          ((((), (), ("thing", 2)),), (), (), ())))

    def test_what_is_one_thing_in_the_original_is_one_in_the_copy(self):
        one = (0, (1, 0), 1, (("make", 0), ("make", 1), ("put", 0, 0, 1), ("put", 0, 1, 1), ("return", 0)))
        two = (0, (1, 0), 1, (("make", 0), ("make", 1), ("put", 0, 1, 1), ("make", 1), ("put", 0, 0, 1), ("return", 0)))
        last = (0, (1, 0), 1, (("make", 0), ("make", 1), ("put", 0, 1, 1), ("return", 0)))
        for function, things in (
                (one, ((2, 1, (3, 3)), (3, 0, (0,)))), (last, ((2, 1, (None, 3)), (3, 0, (0,)))),
                (two, ((3, 1, (4, 5)), (4, 0, (0,)), (5, 0, (0,))))):
            library = library_with(function, kinds=PAIRS)
            self.assertEqual(self.world(library, (1,), [call(0)], (marks("thing", "copied"),))[1], things)

    def test_copies_have_the_least_names_that_are_free(self):
        library = library_with(MAKE_OUTER, MAKE, kinds=((None,), (None, 0)))
        choice = choice_with(library, f0=marks("thing", "copied"))
        history = [call(1, k=0), call(1, k=1), ("drop", 0), call(0, k=None)]
        # The result and its inner thing have 0 and 2, the copies 3 and 4; the result is let go, so 0 and 2 come free.
        self.assertEqual(self.world(library, (0, 0), history, choice)[1], ((1, 0, (0,)), (3, 1, (0, 4)), (4, 0, (0,))))
        library = library_with(MAKE_OUTER, MAKE, GIVE, INNER)
        choice = choice_with(library, f2=marks("thing", "copied"))
        history = [call(0, k=0), call(3, 0, k=1), call(2, 1, k=1), ("drop", 0), call(2, 1, k=1)]
        # The thing of a field is copied alone; name 0 comes free with the outer thing, and the copy has it.
        self.assertEqual(self.world(library, (1, 0), history[:3], choice)[1], ((0, 1, (0, 1)), (1, 0, (0,)), (2, 0, (0,))))
        self.assertEqual(self.world(library, (1, 0), history, choice),
                         ((None, 0), ((0, 0, (0,)), (1, 0, (0,)), (2, 0, (0,))), ((), (), (((1,), (1,), ("thing", 2)),), ())))

    def test_a_copy_has_the_contents_of_its_time(self):
        library = library_with(GIVE, MAKE, READ, WRITE)
        choice = choice_with(library, f0=marks("thing", "copied"))
        history = [call(1, k=0), call(3, 0, 1), call(0, 0), call(3, 0, 2), call(0, 0, k=1), call(2, 1), call(2, 0)]
        self.tells(library, (0, 0), history, choice, [None, 0, None, 0, None, 1, 2], [0, 0, 0, 0, 1, 0, 0])

    def test_numbers_and_empty_are_no_things(self):
        library = library_with(NEXT, (1, (None, 0), 0, (("if", 0, 3), ("make", 1), ("return", 1))), READ)
        for result in ("shared", "copied"):
            choice = choice_with(library, f0=marks("thing", result), f1=marks("thing", result, size=2))
            history = [call(0, 1), call(0, 1), call(1, 1, k=0), call(2, 0), call(1, 0, k=0), call(2, 0), call(1, 1, k=0),
                       call(2, 0)]
            self.tells(library, (0,), history, choice, [2, 2, None, ("error", 0), None, 0, None, ("error", 0)],
                       [0, 1, 0, 0, 0, 0, 1, 0])
            entries = self.room(library, (0,), history, choice, 1)
            self.assertEqual(entries[0], ((1,), (), ("thing", None)))
            self.assertEqual((entries[1][0], entries[1][2][0]), ((0,), "thing"))

    def test_a_result_that_is_changed_by_its_holder(self):
        fresh = (1, (None, 0), 0, (("make", 1), ("put", 1, 0, 0), ("return", 1)))
        library = library_with(fresh, WRITE, READ)
        for result, number in (("shared", 2), ("copied", 1)):
            history = [call(0, 1, k=0), call(1, 0, 2), call(0, 1, k=0), call(2, 0)]
            self.tells(library, (0,), history, choice_with(library, f0=marks("content", result)),
                       [None, 0, None, number], [0, 0, 1, 0])


class TestErrors(RoomTest):
    FAILS = (1, (0, None), None, (("get", 1, 0, 0), ("add", 1, 1), ("put", 0, 0, 1), ("fail", 8)))

    def test_errors_that_are_not_kept(self):
        library = library_with(self.FAILS, MAKE, READ)
        choice = choice_with(library, f0=marks("thing", errors=0))
        history = [call(1, k=0), call(0, 0), call(0, 0), call(2, 0)]
        self.tells(library, (0,), history, choice, [None, ("error", 8), ("error", 8), 2], [0] * 4)
        self.assertEqual(self.room(library, (0,), history, choice, 0), ())

    def test_errors_that_are_kept(self):
        library = library_with(self.FAILS, MAKE, READ)
        for key, name in (("thing", 0), ("name", 0)):
            choice = choice_with(library, f0=marks(key, errors=1))
            history = [call(1, k=0), call(0, 0), call(0, 0), call(0, 0), call(2, 0)]
            # A hit executes nothing, so the thing is written once.
            self.tells(library, (0,), history, choice, [None] + [("error", 8)] * 3 + [1], [0, 0, 1, 1, 0])
            self.assertEqual(self.room(library, (0,), history, choice, 0),
                             (((name,), (0,) if key == "thing" else (), ("error", 8)),))

    def test_the_slot_stays_on_a_hit_with_an_error(self):
        library = library_with((0, (0,), 0, (("fail", 3),)), MAKE, READ)
        choice = choice_with(library, f0=marks("thing", "copied", errors=1))
        history = [call(1, k=0), call(0, k=0), call(0, k=0), call(2, 0)]
        self.tells(library, (0,), history, choice, [None, ("error", 3), ("error", 3), 0], [0, 0, 1, 0])

    def test_error_0_of_empty_is_kept_too(self):
        library = library_with(WRITE)
        self.tells(library, (0,), [call(0, 0, 1), call(0, 0, 1)], (marks("content", errors=1),), [("error", 0)] * 2, [0, 1])

    def test_several_functions_that_an_error_leaves(self):
        outer = lambda g: (1, (None,), None, (("call", 0, g, (0,)), ("return", 0)))
        library = library_with(outer(1), outer(2), (1, (None,), None, (("fail", 5),)))
        for errors in itertools.product((None, 0, 1), repeat=3):
            choice = tuple(None if one is None else marks("name", errors=one) for one in errors)
            rooms = self.world(library, (), [call(0, 2)], choice)[2]
            self.assertEqual(rooms, tuple((((2,), (), ("error", 5)),) if one == 1 else () for one in errors))
            hit = 1 if 1 in errors else 0
            self.tells(library, (), [call(0, 2), call(0, 2)], choice, [("error", 5)] * 2, [0, hit])

    def test_an_error_of_a_hit_is_kept_by_those_that_it_leaves(self):
        library = library_with((1, (None,), None, (("call", 0, 1, (0,)), ("return", 0))), (1, (None,), None, (("fail", 5),)))
        choice = choice_with(library, f0=marks("name", errors=1), f1=marks("thing", errors=1))
        history = [call(1, 2), call(0, 2), call(0, 2)]
        self.tells(library, (), history, choice, [("error", 5)] * 3, [0, 1, 1])
        self.assertEqual(self.world(library, (), history, choice)[2], ((((2,), (), ("error", 5)),),) * 2)

    def test_results_are_kept_with_errors_0_and_1(self):
        library = library_with((1, (None,), None, (("if", 0, 2), ("return", 0), ("fail", 1))))
        for errors in (0, 1):
            history = [call(0, 0), call(0, 1), call(0, 0), call(0, 1)]
            self.tells(library, (), history, (marks("name", errors=errors, size=2),), [0, ("error", 1)] * 2, [0, 0, 1, errors])


class TestSizes(RoomTest):
    def test_the_first_one_goes(self):
        library = library_with(NEXT, modulus=4)
        history = [call(0, n) for n in (0, 1, 2, 3, 0, 1)]
        for size in (1, 2, 3):
            self.hits(library, (), history, (marks("thing", size=size),), [0] * 6)
            for many in range(7):
                keys = self.keys(library, (), history[:many], (marks("thing", size=size),), 0)
                self.assertEqual(keys, [deed[2] for deed in history[:many]][-size:])

    def test_a_hit_changes_no_room(self):
        library = library_with(NEXT, modulus=4)
        history = [call(0, n) for n in (0, 1, 0, 2, 0, 1, 2)]
        # Though 0 was asked for again it goes first when 2 comes, and 1 when 0 comes again.
        self.tells(library, (), history, (marks("thing", size=2),), [1, 2, 1, 3, 1, 2, 3], [0, 0, 1, 0, 0, 0, 0])
        self.tells(library, (), history, (marks("thing", size=3),), [1, 2, 1, 3, 1, 2, 3], [0, 0, 1, 0, 1, 1, 1])
        self.assertEqual(self.keys(library, (), history[:3], (marks("thing", size=2),), 0), [(0,), (1,)])

    def test_sizes_of_errors_and_results_together(self):
        library = library_with((1, (None,), None, (("if", 0, 2), ("return", 0), ("fail", 1))))
        choice = (marks("name", errors=1, size=2),)
        history = [call(0, 1), call(0, 0), call(0, 2), call(0, 0), call(0, 1)]
        self.hits(library, (), history, choice, [0, 0, 0, 1, 0])
        self.assertEqual(self.keys(library, (), history, choice, 0), [(2,), (1,)])
        self.assertEqual(self.keys(library, (), history, (marks("name", errors=0, size=2),), 0), [(0,)])

    def test_each_function_has_a_room_of_its_own(self):
        library = library_with(NEXT, NEXT)
        choice = (marks("thing"), marks("thing", size=2))
        history = [call(0, 0), call(1, 0), call(0, 1), call(1, 1), call(0, 0), call(1, 0)]
        self.hits(library, (), history, choice, [0, 0, 0, 0, 0, 1])


class TestClears(RoomTest):
    def test_a_put_clears(self):
        for clears, numbers, hits in (((), [0, 0], [0, 1]), (((0, 0),), [0, 1], [0, 0])):
            history = [call(0, k=0), call(2, 0), call(1, 0), call(2, 0)]
            self.tells(COUNTER, (0,), history, choice_with(COUNTER, f2=marks("thing", clears=clears)),
                       [None, numbers[0], 0, numbers[1]], [0, hits[0], 0, hits[1]])

    def test_only_the_kinds_and_fields_of_clears(self):
        places = [(0, 0), (1, 0), (1, 1)]
        writers = [(2, (0, None), None, (("put", 0, 0, 1),)), (2, (1, None), None, (("put", 0, 0, 1),)),
                   (1, (1, 0), None, (("put", 0, 1, 1),))]
        library = library_with(*writers, NEXT, (0, (1, 0), 0, (("make", 0), ("make", 1), ("put", 0, 1, 1), ("return", 1))))
        library_of_outer = library_with(*writers, NEXT, (0, (1,), 1, (("make", 0), ("return", 0))))
        for many in range(4):
            for clears in itertools.combinations(places, many):
                choice = choice_with(library, f3=marks("thing", clears=clears))
                for writer, place in enumerate(places):
                    source, slots = (library, (0,)) if writer == 0 else (library_of_outer, (1,))
                    args = (0,) if writer == 2 else (0, 1)
                    history = [call(4, k=0), call(3, 1), call(writer, *args), call(3, 1)]
                    self.hits(source, slots, history, choice, [0, 0, 0, 0 if place in clears else 1])

    def test_a_put_that_changes_nothing_clears(self):
        library = library_with(MAKE, WRITE, READ)
        choice = choice_with(library, f2=marks("thing", clears=((0, 0),)))
        history = [call(0, k=0), call(2, 0), call(1, 0, 0), call(2, 0), call(2, 0)]
        self.hits(library, (0,), history, choice, [0, 0, 0, 0, 1])

    def test_make_and_copies_write_nothing(self):
        library = library_with(MAKE, READ, GIVE)
        choice = choice_with(library, f1=marks("thing", clears=((0, 0),)), f2=marks("thing", "copied"))
        history = [call(0, k=0), call(1, 0), call(0, k=1), call(1, 0), call(2, 0), call(2, 0), call(1, 0)]
        self.hits(library, (0, 0), history, choice, [0, 0, 0, 1, 0, 1, 1])

    def test_a_put_into_empty_clears_nothing(self):
        library = library_with(MAKE, READ, WRITE)
        choice = choice_with(library, f1=marks("thing", clears=((0, 0),)))
        history = [call(0, k=0), call(1, 0), call(2, 1, 1), call(1, 0)]
        self.tells(library, (0, 0), history, choice, [None, 0, ("error", 0), 0], [0, 0, 0, 1])

    def test_a_put_ahead_of_an_error_clears(self):
        library = library_with(MAKE, READ, (2, (0, None), None, (("put", 0, 0, 1), ("fail", 7))))
        choice = choice_with(library, f1=marks("thing", clears=((0, 0),)))
        history = [call(0, k=0), call(1, 0), call(2, 0, 2), call(1, 0)]
        self.tells(library, (0,), history, choice, [None, 0, ("error", 7), 2], [0, 0, 0, 0])

    def test_all_entries_of_all_such_rooms_go(self):
        library = library_with(NEXT, NEXT, NEXT, MAKE, WRITE)
        choice = choice_with(library, f0=marks("thing", size=3, clears=((0, 0),)), f1=marks("name", size=2, clears=((0, 0),)),
                             f2=marks("content", size=3))
        history = [call(3, k=0)] + [call(f, n) for f in range(3) for n in range(3)] + [call(4, 0, 1)]
        rooms = self.world(library, (0,), history, choice)[2]
        self.assertEqual([len(room) for room in rooms], [0, 0, 3, 0, 0])
        rooms = self.world(library, (0,), history[:-1], choice)[2]
        self.assertEqual([len(room) for room in rooms], [3, 2, 3, 0, 0])

    def test_functions_that_others_call_and_that_have_rooms_clear_too(self):
        library = library_with((2, (0, None), None, (("call", 1, 1, (0, 1)),)), WRITE, READ, MAKE)
        for marked in itertools.product((None, marks("thing")), repeat=2):
            choice = marked + (marks("thing", clears=((0, 0),)), None)
            history = [call(3, k=0), call(2, 0), call(0, 0, 2), call(2, 0)]
            self.tells(library, (0,), history, choice, [None, 0, 0, 2], [0] * 4)

    def test_a_hit_clears_nothing_as_nothing_is_executed(self):
        library = library_with(WRITE, READ, MAKE)
        choice = (marks("thing"), marks("thing", clears=((0, 0),)), None)
        history = [call(2, k=0), call(0, 0, 1), call(1, 0), call(0, 0, 1), call(1, 0)]
        self.tells(library, (0,), history, choice, [None, 0, 1, 0, 1], [0, 0, 0, 1, 1])

    def test_a_clear_within_a_call_comes_at_once(self):
        # Function 0 reads, writes, and reads again.
        library = library_with(
            (1, (0, None), None, (("call", 1, 1, (0,)), ("add", 1, 1), ("put", 0, 0, 1), ("call", 1, 1, (0,)), ("return", 1))),
            READ, MAKE)
        history = [call(2, k=0), call(0, 0), call(0, 0)]
        self.tells(library, (0,), history, (None, marks("thing", clears=((0, 0),)), None), [None, 1, 2], [0, 0, 1])
        self.tells(library, (0,), history, (None, marks("thing"), None), [None, 0, 0], [0, 1, 2])

    def test_an_entry_is_put_in_behind_a_clear_in_the_same_call(self):
        writes = (1, (0, None), None, (("get", 1, 0, 0), ("add", 1, 1), ("put", 0, 0, 1), ("return", 1)))
        library = library_with(writes, MAKE, READ)
        choice = choice_with(library, f0=marks("thing", size=3, clears=((0, 0),)))
        history = [call(1, k=0), call(0, 0), call(0, 0), call(2, 0), call(1, k=1), call(0, 1), call(0, 0)]
        # The second one clears the entry of the first one, and then puts in its own.
        self.tells(library, (0, 0), history, choice, [None, 1, 1, 1, None, 1, 2], [0, 0, 1, 0, 0, 0, 0])
        self.assertEqual(self.keys(library, (0, 0), history[:6], choice, 0), [(1,)])

    def test_entries_of_an_error_behind_a_clear(self):
        library = library_with((1, (0, None), None, (("call", 1, 1, (0,)), ("return", 1))),
                               (1, (0, None), None, (("put", 0, 0, 1), ("fail", 2))), MAKE)
        mark = marks("thing", errors=1, size=3, clears=((0, 0),))
        history = [call(2, k=0), call(2, k=1), call(0, 0), call(0, 1)]
        entries = (((1,), (1,), ("error", 2)),)
        self.assertEqual(self.world(library, (0, 0), history, (mark, mark, None))[2], (entries, entries, ()))


class TestCallsByFunctions(RoomTest):
    def test_hits_of_calls_by_functions_are_counted(self):
        library = library_with((1, (None, None), None, (("call", 1, 1, (0,)), ("call", 1, 1, (0,)), ("call", 1, 2, (0,)),
                                                        ("return", 1))), NEXT, NEXT)
        for f1, f2, hits in ((None, None, [0, 0]), (marks("name"), None, [1, 2]), (None, marks("name"), [0, 1]),
                             (marks("name"), marks("name"), [1, 3])):
            self.tells(library, (), [call(0, 1), call(0, 1)], (None, f1, f2), [2, 2], hits)
        # A hit of function 0 is one hit: it is not executed, so it calls nothing.
        self.tells(library, (), [call(0, 1), call(0, 1)], (marks("name"),) * 3, [2, 2], [1, 1])

    def test_the_user_and_functions_use_one_room(self):
        library = library_with((1, (None, None), None, (("call", 1, 1, (0,)), ("return", 1))), NEXT)
        history = [call(1, 2), call(0, 2), call(0, 1), call(1, 1), call(1, 2)]
        self.tells(library, (), history, (None, marks("content")), [0, 0, 2, 2, 0], [0, 1, 0, 1, 0])

    def test_the_entry_of_the_called_function_comes_first(self):
        library = library_with((1, (0, 0), 0, (("call", 1, 1, (0,)), ("return", 1))), GIVE, MAKE)
        choice = (marks("name", "copied"), marks("name", "copied"), None)
        history = [call(2, k=0), call(0, 0)]
        # Function 1 keeps a copy with the name 1, function 0 then one with the name 2.
        self.assertEqual(self.world(library, (0,), history, choice)[2],
                         ((((0,), (), ("thing", 2)),), (((0,), (), ("thing", 1)),), ()))

    def test_a_shared_result_of_a_called_function(self):
        library = library_with((0, (0, 0, None), None, (("call", 0, 1, ()), ("call", 1, 1, ()), ("same", 2, 0, 1),
                                                        ("return", 2))), MAKE)
        for mark, wanted in ((None, [0, 0]), (marks("name"), [1, 1]), (marks("name", "copied"), [0, 0])):
            self.tells(library, (), [call(0), call(0)], (None, mark), wanted, [0, 0] if mark is None else [1, 2])

    def test_what_a_function_wrote_is_not_written_again(self):
        library = library_with((1, (0, None), None, (("call", 1, 1, (0,)),)), BUMP, READ, MAKE)
        history = [call(3, k=0), call(0, 0), call(0, 0), call(2, 0), call(1, 0), call(2, 0)]
        self.tells(library, (0,), history, (None,) * 4, [None, 0, 0, 2, 0, 0], [0] * 6)
        self.tells(library, (0,), history, (None, marks("thing"), None, None), [None, 0, 0, 1, 0, 1], [0, 0, 1, 0, 1, 0])


class TestAlive(RoomTest):
    def test_an_entry_has_its_result(self):
        library = library_with(MAKE, READ, BUMP)
        for key in ("name", "thing", "content"):
            choice = choice_with(library, f0=marks(key))
            world = self.world(library, (0,), [call(0), call(0, k=0), call(2, 0), ("drop", 0)], choice)
            self.assertEqual(world, ((None,), ((0, 0, (1,)),), ((((), (), ("thing", 0)),), (), ())))

    def test_a_result_has_its_fields(self):
        library = library_with(MAKE_OUTER)
        world = self.world(library, (), [call(0)], (marks("name"),))
        self.assertEqual(world, ((), ((0, 1, (0, 1)), (1, 0, (0,))), ((((), (), ("thing", 0)),),)))

    def test_with_thing_an_entry_has_its_arguments(self):
        library = library_with(MAKE, READ, SAME)
        for key, things in (("name", ()), ("content", ()), ("thing", ((0, 0, (0,)),))):
            choice = choice_with(library, f1=marks(key))
            self.assertEqual(self.world(library, (0,), [call(0, k=0), call(1, 0), ("drop", 0)], choice)[1], things)
        choice = choice_with(library, f2=marks("thing"))
        history = [call(0, k=0), call(0, k=1), call(2, 1, 0), ("drop", 0), ("drop", 1)]
        self.assertEqual(self.world(library, (0, 0), history, choice),
                         ((None, None), ((0, 0, (0,)), (1, 0, (0,))), ((), (), (((1, 0), (1, 0), ("number", 0)),))))

    def test_arguments_are_things_alone_in_their_order(self):
        library = library_with(MAKE, (2, (None, 0), None, ()), (2, (0, 0), None, ()))
        choice = choice_with(library, f1=marks("thing", size=3), f2=marks("thing", size=3))
        history = [call(0, k=0), call(1, 2, 0), call(1, 0, 1), call(2, 0, 1), call(2, 1, 0), call(2, 0, 0)]
        rooms = self.world(library, (0, 0), history, choice)[2]
        self.assertEqual(rooms[1], (((2, 0), (0,), ("number", 0)), ((0, None), (), ("number", 0))))
        self.assertEqual(rooms[2], (((0, None), (0,), ("number", 0)), ((None, 0), (0,), ("number", 0)),
                                    ((0, 0), (0, 0), ("number", 0))))

    def test_an_entry_with_an_error_has_its_arguments(self):
        library = library_with(MAKE, (1, (0,), None, (("fail", 4),)))
        for key, things in (("thing", ((0, 0, (0,)),)), ("name", ())):
            choice = choice_with(library, f1=marks(key, errors=1))
            self.assertEqual(self.world(library, (0,), [call(0, k=0), call(1, 0), ("drop", 0)], choice)[1], things)

    def test_things_go_with_the_entries_that_go(self):
        library = library_with(MAKE, READ, WRITE, (1, (None, 0), 0, (("make", 1), ("put", 1, 0, 0), ("return", 1))))
        choice = choice_with(library, f1=marks("thing", clears=((0, 0),)), f3=marks("name", size=2))
        history = [call(0, k=0), call(1, 0), call(0, k=0), call(1, 0)]
        self.assertEqual(self.world(library, (0,), history[:3], choice)[1], ((0, 0, (0,)), (1, 0, (0,))))
        self.assertEqual(self.world(library, (0,), history, choice)[1], ((1, 0, (0,)),))
        history = [call(0, k=0), call(1, 0), ("drop", 0), call(0, k=0), call(2, 0, 2)]
        self.assertEqual(self.world(library, (0,), history, choice), ((1,), ((1, 0, (2,)),), ((),) * 4))
        # A put into a new thing clears, too; the result of the first call goes with its entry when the third one comes.
        history = [call(3, 0), call(3, 1), call(3, 2), call(3, 0)]
        self.assertEqual(self.world(library, (0,), history[:2], choice)[1], ((0, 0, (0,)), (1, 0, (1,))))
        self.assertEqual(self.world(library, (0,), history[:3], choice)[1], ((1, 0, (1,)), (2, 0, (2,))))
        self.assertEqual(self.world(library, (0,), history, choice)[1], ((0, 0, (0,)), (2, 0, (2,))))


class TestNamesThatComeAgain(RoomTest):
    LIBRARY = library_with(MAKE, READ, WRITE)
    HISTORY = [call(0, k=0), call(2, 0, 2), call(1, 0), ("drop", 0), call(0, k=0), call(1, 0)]

    def test_with_name_an_entry_is_told_for_a_thing_that_is_gone(self):
        choice = choice_with(self.LIBRARY, f1=marks("name"))
        self.tells(self.LIBRARY, (0,), self.HISTORY, choice, [None, 0, 2, None, None, 2], [0, 0, 0, 0, 0, 1])
        world = self.world(self.LIBRARY, (0,), self.HISTORY[:4], choice)
        self.assertEqual(world, ((None,), (), ((), (((0,), (), ("number", 2)),), ())))

    def test_with_thing_the_name_does_not_come_again(self):
        choice = choice_with(self.LIBRARY, f1=marks("thing"))
        self.tells(self.LIBRARY, (0,), self.HISTORY, choice, [None, 0, 2, None, None, 0], [0] * 6)
        world = self.world(self.LIBRARY, (0,), self.HISTORY[:-1], choice)
        self.assertEqual(world, ((1,), ((0, 0, (2,)), (1, 0, (0,))), ((), (((0,), (0,), ("number", 2)),), ())))

    def test_with_content_names_mean_nothing(self):
        choice = choice_with(self.LIBRARY, f1=marks("content", size=2))
        self.tells(self.LIBRARY, (0,), self.HISTORY + [call(2, 0, 2), call(1, 0)], choice,
                   [None, 0, 2, None, None, 0, 0, 2], [0] * 7 + [1])

    def test_a_name_may_come_again_as_one_of_another_place(self):
        library = library_with(MAKE, SAME)
        history = [call(0, k=0), call(0, k=1), call(1, 0, 1), ("drop", 1), call(0, k=1), call(1, 0, 1), call(1, 1, 0)]
        self.hits(library, (0, 0), history, choice_with(library, f1=marks("name", size=2)), [0] * 5 + [1, 0])


class TestDocument(RoomTest):
    def test_a_clear_more(self):
        history = [call(0, k=0), call(2, 0), call(1, 0), call(2, 0)]
        self.tells(COUNTER, (0,), history, (None, None, ("thing", "shared", 0, 1, ())), [None, 0, 0, 0], [0, 0, 0, 1])
        self.tells(COUNTER, (0,), history, (None, None, ("thing", "shared", 0, 1, ((0, 0),))), [None, 0, 0, 1], [0, 0, 0, 0])

    def test_a_larger_room(self):
        held = ("thing", "shared", 0, 1, ())
        larger = (None, None, None, ("thing", "shared", 0, 2, ()), held)
        history = [call(0, k=0), call(0, k=1), call(1, 0), call(1, 1), call(1, 0), call(2, 0)]
        for choice, number in ((plain(PAIR), 0), ((None, None, None, held, held), 0), (larger, 1)):
            self.assertEqual(told(PAIR, (0, 0), history, choice)[0][-1], number)
