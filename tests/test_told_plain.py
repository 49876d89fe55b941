import itertools
import unittest

from keptcalls.libraries import is_library
from keptcalls.rooms import told
from keptcalls.worlds import worlds
from tests.samples import (BUMP, COUNTER, EMPTY, INNER, LINK, MAKE, MAKE_OUTER, PAIR, READ, WRITE, call, library_with,
                           plain)

KINDS = ((None,), (None, 0))


class PlainTest(unittest.TestCase):
    def tells(self, library, slots, history, *wanted):
        self.assertIs(is_library(library), True)
        self.assertEqual(told(library, slots, history, plain(library)), (list(wanted), [0] * len(history)))

    def returns(self, wanted, body, *args, variables=(None,), modulus=3, result=None):
        """What a function tells whose variables begin with its parameters."""
        function = (len(args), variables, result, body)
        self.tells(library_with(function, modulus=modulus), (), [("call", 0, args, None)], wanted)

    def slot_of(self, library, slots, history):
        """What slot 0 has behind a history: None, or (kind, fields)."""
        held, things, rooms = worlds(library, slots, history, plain(library))[0]
        found = [(kind, fields) for name, kind, fields in things if name == held[0]]
        return found[0] if found else None


class TestNumbers(PlainTest):
    def test_number(self):
        for modulus in (2, 3, 4):
            for c in range(modulus):
                self.returns(c, (("number", 0, c), ("return", 0)), modulus=modulus)
                self.returns(c, (("number", 1, c), ("return", 1)), modulus - 1, variables=(None, None), modulus=modulus)

    def test_add_is_modulo_the_modulus(self):
        for modulus in (2, 3, 4):
            for x, c in itertools.product(range(modulus), repeat=2):
                self.returns((x + c) % modulus, (("add", 0, c), ("return", 0)), x, modulus=modulus)
        self.returns(1, (("add", 0, 3), ("add", 0, 3), ("add", 0, 3), ("return", 0)), 0, modulus=4)

    def test_copy(self):
        self.returns(2, (("copy", 1, 0), ("return", 1)), 2, variables=(None, None))
        self.returns(2, (("copy", 1, 0), ("number", 0, 1), ("return", 1)), 2, variables=(None, None))
        self.returns(0, (("copy", 0, 1), ("return", 0)), 2, variables=(None, None))
        self.returns(1, (("copy", 0, 0), ("return", 0)), 1)

    def test_variables_that_are_no_parameters_are_0_or_empty(self):
        self.returns(0, (("return", 1),), 2, variables=(None, None))
        self.returns(1, (("same", 1, 2, 3), ("return", 1)), 2, variables=(None, None, 0, 0))
        self.returns(1, (("same", 1, 2, 3), ("return", 1)), 2, variables=(None, None, 1, 1))

    def test_if_with_numbers(self):
        for x in range(3):
            self.returns(2 if x else 1, (("if", 0, 3), ("number", 1, 1), ("return", 1), ("number", 1, 2), ("return", 1)),
                         x, variables=(None, None))
            self.returns(0 if x else x, (("if", 0, 2), ("return", 0)), x)
            self.returns(x, (("if", 0, 1), ("return", 0)), x)

    def test_jump(self):
        self.returns(1, (("number", 0, 1), ("jump", 3), ("number", 0, 2), ("return", 0)))
        self.returns(0, (("number", 0, 1), ("jump", 3), ("return", 0)))
        self.returns(1, (("number", 0, 1), ("jump", 2), ("return", 0)))

    def test_return_ends_the_function(self):
        self.returns(1, (("return", 0), ("number", 0, 2), ("return", 0)), 1)
        self.returns(1, (("return", 0), ("fail", 3)), 1)

    def test_fail(self):
        for e in range(10):
            self.returns(("error", e), (("fail", e), ("return", 0)), 1)
            self.returns(("error", e), (("number", 0, 1), ("if", 0, 3), ("return", 0), ("fail", e)))

    def test_ends_without_a_return(self):
        self.returns(0, ())
        self.returns(0, (("number", 0, 2),))
        self.returns(0, (), 2)
        self.returns(0, (("add", 0, 1), ("jump", 2)), 1)


class TestThings(PlainTest):
    def test_a_new_thing_has_0_and_empty(self):
        library = library_with((0, (1,), 1, (("make", 0), ("return", 0))), MAKE)
        self.assertEqual(self.slot_of(library, (1,), [call(0, k=0)]), (1, (0, None)))
        self.assertEqual(self.slot_of(library, (0,), [call(1, k=0)]), (0, (0,)))
        empty = library_with(MAKE, kinds=((),))
        self.assertEqual(self.slot_of(empty, (0,), [call(0, k=0)]), (0, ()))

    def test_get_and_put_of_numbers(self):
        library = library_with(MAKE, READ, WRITE, BUMP)
        history = [call(0, k=0), call(1, 0)]
        wanted = [None, 0]
        for n in (2, 0, 1):
            history += [call(2, 0, n), call(1, 0), call(3, 0), call(1, 0)]
            wanted += [0, n, 0, (n + 1) % 3]
        self.tells(library, (0,), history, *wanted)

    def test_get_gives_the_very_thing_of_a_field(self):
        library = library_with(MAKE_OUTER, INNER, WRITE, READ)
        history = [call(0, k=0), call(1, 0, k=1), call(2, 1, 2), call(1, 0, k=1), call(3, 1)]
        self.tells(library, (1, 0), history, None, None, 0, None, 2)

    def test_get_of_a_field_that_is_empty_is_no_error(self):
        library = library_with((0, (1,), 1, (("make", 0), ("return", 0))), INNER)
        self.tells(library, (1, 0), [call(0, k=0), call(1, 0, k=1), call(1, 0)], None, None, None)

    def test_put_of_a_thing_and_of_empty(self):
        library = library_with(MAKE_OUTER, LINK, INNER, MAKE, BUMP)
        history = [call(0, k=0), call(3, k=1), call(4, 1), call(1, 0, 1), ("drop", 1), call(2, 0, k=1), call(4, 1)]
        self.tells(library, (1, 0), history, None, None, 0, 0, None, None, 0)
        world = worlds(library, (1, 0), history, plain(library))[0]
        self.assertEqual(world, ((0, 2), ((0, 1, (0, 2)), (2, 0, (2,))), ((),) * 5))
        history += [("drop", 1), call(1, 0, 1), call(2, 0, k=1)]
        self.assertEqual(worlds(library, (1, 0), history, plain(library))[0], ((0, None), ((0, 1, (0, None)),), ((),) * 5))

    def test_fields_are_told_apart(self):
        library = library_with(
            (0, (0,), 0, (("make", 0), ("return", 0))),
            (2, (0, None), None, (("put", 0, 0, 1),)), (2, (0, None), None, (("put", 0, 1, 1),)),
            (1, (0, None), None, (("get", 1, 0, 0), ("return", 1))), (1, (0, None), None, (("get", 1, 0, 1), ("return", 1))),
            kinds=((None, None),))
        history = [call(0, k=0), call(1, 0, 1), call(2, 0, 2), call(3, 0), call(4, 0)]
        self.tells(library, (0,), history, None, 0, 0, 1, 2)

    def test_same(self):
        library = library_with(MAKE, (2, (0, 0, None), None, (("same", 2, 0, 1), ("return", 2))),
                               (1, (0,), 0, (("return", 0),)))
        history = [call(1, 0, 1), call(0, k=0), call(1, 0, 0), call(1, 0, 1), call(1, 1, 0), call(0, k=1), call(1, 0, 1),
                   call(2, 0, k=1), call(1, 0, 1)]
        self.tells(library, (0, 0), history, 1, None, 1, 0, 0, None, 0, None, 1)

    def test_same_writes_over_what_was_there(self):
        self.returns(0, (("make", 1), ("same", 0, 1, 2), ("return", 0)), 2, variables=(None, 0, 0))
        self.returns(1, (("make", 1), ("copy", 2, 1), ("same", 0, 1, 2), ("return", 0)), 2, variables=(None, 0, 0))

    def test_copy_of_a_thing_is_the_same_thing(self):
        self.returns(2, (("make", 1), ("copy", 2, 1), ("put", 2, 0, 0), ("get", 3, 1, 0), ("return", 3)), 2,
                     variables=(None, 0, 0, None))
        # What was copied stays, whatever the variable has then.
        self.returns(1, (("make", 1), ("copy", 2, 1), ("make", 1), ("if", 2, 5), ("fail", 1), ("number", 0, 1),
                         ("return", 0)), 0, variables=(None, 0, 0))

    def test_if_with_things(self):
        body = (("if", 0, 3), ("number", 1, 1), ("return", 1), ("number", 1, 2), ("return", 1))
        for kind in (0, 1):
            make = (0, (kind,), kind, (("make", 0), ("return", 0)))
            library = library_with(make, (1, (kind, None), None, body))
            # The first thing has the name 0, and is a thing all the same.
            self.tells(library, (kind,), [call(1, 0), call(0, k=0), call(1, 0), ("drop", 0), call(1, 0)], 1, None, 2, None, 1)

    def test_two_makes_are_two_things(self):
        self.returns(0, (("make", 1), ("make", 2), ("same", 0, 1, 2), ("return", 0)), 1, variables=(None, 0, 0))


class TestEmpty(PlainTest):
    def test_get_of_empty_is_error_0(self):
        for kind, i, sort in ((0, 0, None), (1, 0, None), (1, 1, 0)):
            self.returns(("error", 0), (("get", 1, 0, i), ("fail", 5)), variables=(kind, sort))

    def test_put_into_empty_is_error_0(self):
        for kind, i, sort in ((0, 0, None), (1, 0, None), (1, 1, 0)):
            self.returns(("error", 0), (("put", 0, i, 1), ("fail", 5)), variables=(kind, sort))

    def test_slots_are_empty_at_first(self):
        library = library_with(READ, WRITE)
        self.tells(library, (0,), [call(0, 0), call(1, 0, 1)], ("error", 0), ("error", 0))

    def test_empty_may_be_copied_passed_and_returned(self):
        library = library_with((1, (0, 0), 0, (("copy", 1, 0), ("call", 1, 1, (1,)), ("return", 1))),
                               (1, (0,), 0, (("return", 0),)), MAKE)
        self.tells(library, (0, 0), [call(2, k=1), call(0, 0, k=1)], None, None)
        self.assertEqual(self.slot_of(library, (0, 0), [call(2, k=0), call(0, 1, k=0)]), None)


class TestCalls(PlainTest):
    def test_a_call_returns_a_number(self):
        self.tells(library_with((1, (None, None), None, (("call", 1, 1, (0,)), ("return", 1))),
                                (1, (None,), None, (("add", 0, 1), ("return", 0)))),
                   (), [call(0, n) for n in range(3)], 1, 2, 0)

    def test_arguments_by_their_places(self):
        self.tells(library_with((2, (None, None, None), None, (("call", 2, 1, (1, 0)), ("return", 2))),
                                (2, (None, None), None, (("if", 1, 3), ("add", 0, 1), ("return", 0), ("return", 1)))),
                   (), [call(0, a, b) for a in range(3) for b in range(3)], 1, 2, 0, 1, 1, 1, 2, 2, 2)

    def test_a_called_function_has_variables_of_its_own(self):
        self.tells(library_with((1, (None, None), None, (("call", 1, 1, (0,)), ("return", 0))),
                                (1, (None, None), None, (("number", 0, 2), ("number", 1, 2), ("return", 1)))),
                   (), [call(0, 1)], 1)

    def test_a_thing_is_passed_as_it_is(self):
        library = library_with((1, (0, None), None, (("call", 1, 1, (0,)), ("get", 1, 0, 0), ("return", 1))), BUMP, MAKE)
        self.tells(library, (0,), [call(2, k=0), call(0, 0), call(0, 0), call(0, 0)], None, 1, 2, 0)

    def test_one_thing_twice(self):
        library = library_with((1, (0, None), None, (("call", 1, 1, (0, 0)), ("return", 1))),
                               (2, (0, 0, None), None, (("same", 2, 0, 1), ("return", 2))), MAKE)
        self.tells(library, (0,), [call(2, k=0), call(0, 0), call(1, 0, 0)], None, 1, 1)

    def test_calls_within_calls(self):
        step = lambda g: (1, (None,), None, (("call", 0, g, (0,)), ("call", 0, g, (0,)), ("return", 0)))
        library = library_with(step(1), step(2), step(3), (1, (None,), None, (("add", 0, 1), ("return", 0))), modulus=4)
        self.tells(library, (), [call(f, 1) for f in range(4)], 1, 1, 3, 2)

    def test_functions_that_are_not_exported_are_called(self):
        library = (3, KINDS, ((0, (None,), None, (("call", 0, 1, ()), ("return", 0))),
                              (0, (None,), None, (("number", 0, 2), ("return", 0)))), (0,))
        self.tells(library, (), [call(0)], 2)


class TestErrors(PlainTest):
    def test_an_error_leaves_all_functions(self):
        outer = lambda g: (1, (0, None), None, (("call", 1, g, (0,)), ("put", 0, 0, 1), ("number", 1, 2), ("return", 1)))
        library = library_with(outer(1), outer(2), outer(3), (1, (0, None), None, (("get", 1, 0, 0), ("if", 1, 3),
                                                                                  ("return", 1), ("fail", 6))), MAKE)
        history = [call(f, 0) for f in range(4)] + [call(4, k=0)] + [call(f, 0) for f in (3, 2, 3, 1, 0, 0, 1, 2, 3)]
        error = ("error", 6)
        # Function 1 writes what function 2 has returned, 2, so behind it each call fails.
        self.tells(library, (0,), history, *[("error", 0)] * 4, None, 0, 2, 0, 2, *[error] * 5)

    def test_what_was_written_ahead_stays_written(self):
        fails = (1, (0, None), None, (("number", 1, 2), ("put", 0, 0, 1), ("call", 1, 1, (0,)), ("number", 1, 1),
                                      ("put", 0, 0, 1)))
        library = library_with(fails, (1, (0, None), None, (("get", 1, 0, 0), ("add", 1, 2), ("put", 0, 0, 1), ("fail", 4))),
                               MAKE, READ)
        self.tells(library, (0,), [call(2, k=0), call(0, 0), call(3, 0), call(1, 0), call(3, 0)],
                   None, ("error", 4), 1, ("error", 4), 0)

    def test_links_that_were_written_ahead_have_their_things(self):
        library = library_with((1, (1, 0), None, (("make", 1), ("put", 0, 1, 1), ("make", 1), ("fail", 9))),
                               (0, (1,), 1, (("make", 0), ("return", 0))))
        history = [call(1, k=0), call(0, 0)]
        self.tells(library, (1,), history, None, ("error", 9))
        # The thing of the field stays; the one that was only in a variable is removed.
        self.assertEqual(worlds(library, (1,), history, plain(library))[0],
                         ((0,), ((0, 1, (0, 1)), (1, 0, (0,))), ((), ())))

    def test_the_slot_stays_what_it_was(self):
        library = library_with((1, (None, 0), 0, (("make", 1), ("if", 0, 3), ("return", 1), ("fail", 1))), BUMP, READ)
        history = [call(0, 1, k=0), call(2, 0), call(0, 0, k=0), call(1, 0), call(0, 1, k=0), call(2, 0), call(0, 0, k=0),
                   call(2, 0)]
        error = ("error", 1)
        self.tells(library, (0,), history, error, ("error", 0), None, 0, error, 1, None, 0)


class TestDeeds(PlainTest):
    def test_no_deed(self):
        for library in (COUNTER, PAIR, EMPTY):
            self.assertEqual(told(library, (), [], plain(library)), ([], []))

    def test_a_thing_is_not_told(self):
        library = library_with(MAKE, (1, (0,), 0, (("return", 0),)))
        self.tells(library, (0,), [call(0), call(0, k=0), call(1, 0), call(1, 0, k=0), ("drop", 0), ("drop", 0)], *[None] * 6)

    def test_the_slot_becomes_the_result_at_the_end(self):
        swap = (2, (0, 0), 0, (("return", 1),))
        library = library_with(MAKE, WRITE, READ, swap)
        history = [call(0, k=0), call(1, 0, 2), call(0, k=1), call(3, 1, 0, k=1), call(2, 1), call(1, 1, 1), call(2, 0)]
        self.tells(library, (0, 0), history, None, 0, None, None, 2, 0, 1)

    def test_the_slot_becomes_empty_by_an_empty_result(self):
        library = library_with(MAKE, (0, (0,), 0, ()), (0, (0,), 0, (("return", 0),)), READ)
        for f in (1, 2):
            history = [call(0, k=0), call(3, 0), call(f, k=0), call(3, 0)]
            self.tells(library, (0,), history, None, 0, None, ("error", 0))

    def test_drop(self):
        library = library_with(MAKE, READ, (1, (0,), 0, (("return", 0),)))
        history = [call(0, k=0), call(2, 0, k=1), ("drop", 0), call(1, 0), call(1, 1), ("drop", 1), call(1, 1)]
        self.tells(library, (0, 0), history, None, None, None, ("error", 0), 0, None, ("error", 0))

    def test_the_document(self):
        history = [call(0, k=0), call(2, 0), call(1, 0), call(2, 0)]
        self.tells(COUNTER, (0,), history, None, 0, 0, 1)
        history = [call(0, k=0), call(0, k=1), call(1, 0), call(1, 1), call(1, 0), call(2, 0)]
        self.tells(PAIR, (0, 0), history, None, None, 0, 0, 0, 0)

    def test_sixty_deeds(self):
        history = [call(0, k=0)] + [call(1, 0), call(2, 0)] * 29 + [("drop", 0)]
        self.tells(COUNTER, (0,), history, None, *[0, 1, 0, 0] * 14, 0, 1, None)


class TestNames(PlainTest):
    def names_behind(self, library, slots, history):
        held, things, rooms = worlds(library, slots, history, plain(library))[0]
        return (held, [name for name, kind, fields in things])

    def test_the_least_name_that_no_thing_has(self):
        library = library_with(MAKE, MAKE_OUTER)
        self.assertEqual(self.names_behind(library, (0, 1), [call(0, k=0), call(1, k=1)]), ((0, 1), [0, 1, 2]))
        self.assertEqual(self.names_behind(library, (0, 1), [call(1, k=1), call(0, k=0)]), ((2, 0), [0, 1, 2]))

    def test_names_that_come_again(self):
        library = library_with(MAKE, MAKE_OUTER)
        # Name 0 is free behind the drop; the outer thing has it then, and the inner one the next that is free.
        history = [call(0, k=0), call(0, k=1), ("drop", 0), call(0, k=0)]
        self.assertEqual(self.names_behind(library, (0, 0), history), ((0, 1), [0, 1]))
        history = [call(0, k=0), call(1, k=1), ("drop", 0), call(1, k=1), call(0, k=0)]
        self.assertEqual(self.names_behind(library, (0, 1), history[:3]), ((None, 1), [1, 2]))
        self.assertEqual(self.names_behind(library, (0, 1), history[:4]), ((None, 0), [0, 3]))
        self.assertEqual(self.names_behind(library, (0, 1), history), ((1, 0), [0, 1, 3]))

    def test_no_name_comes_free_within_a_deed(self):
        makes = (0, (0,), 0, (("make", 0), ("make", 0), ("make", 0), ("return", 0)))
        library = library_with(makes)
        self.assertEqual(self.names_behind(library, (0,), [call(0, k=0)]), ((2,), [2]))
        self.assertEqual(self.names_behind(library, (0,), [call(0, k=0), call(0, k=0)]), ((3,), [3]))
        self.assertEqual(self.names_behind(library, (0,), [call(0, k=0), call(0, k=0), call(0, k=0)]), ((2,), [2]))

    def test_a_result_that_is_let_go(self):
        library = library_with(MAKE, MAKE_OUTER)
        self.assertEqual(self.names_behind(library, (0,), [call(0), call(1), call(1)]), ((None,), []))
        self.assertEqual(self.names_behind(library, (0,), [call(1), call(0, k=0)]), ((0,), [0]))

    def test_a_thing_in_a_field_of_an_alive_thing_is_alive(self):
        library = library_with(MAKE_OUTER, INNER, LINK)
        history = [call(0, k=0), call(1, 0, k=1), ("drop", 1)]
        self.assertEqual(self.names_behind(library, (1, 0), history), ((0, None), [0, 1]))
        history = [call(0, k=0), call(1, 0, k=1), ("drop", 0)]
        self.assertEqual(self.names_behind(library, (1, 0), history), ((None, 1), [1]))
        history = [call(0, k=0), call(2, 0, 1)]
        self.assertEqual(self.names_behind(library, (1, 0), history), ((0, None), [0]))

    def test_an_error_removes_too(self):
        library = library_with((1, (None, 0), 0, (("make", 1), ("make", 1), ("fail", 2))), MAKE)
        self.assertEqual(self.names_behind(library, (0,), [call(1, k=0), call(0, 1, k=0), call(1, k=0)]), ((1,), [1]))
        self.assertEqual(self.names_behind(library, (0,), [call(0, 1, k=0)]), ((None,), []))
