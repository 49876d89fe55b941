import itertools
import unittest

from keptcalls.errors import NoLibrary
from keptcalls.libraries import is_library
from keptcalls.texts import looks
from tests import drawn, oracle_texts
from tests.samples import (BOX, BOXES, BUMP, COUNTER, EMPTY, GIVE, INNER, LINK, MAKE, MAKE_OUTER, NO_LIBRARIES, PAIR, READ,
                           SAME, WRITE, library_with)

# A function of kind 0 that returns what is passed first, or second, or a new thing, or the inner thing of one of kind 1.
FIRST = (2, (0, 0), 0, (("return", 0),))
SECOND = (2, (0, 0), 0, (("return", 1),))
NEVER = (1, (0, 0), 0, (("return", 1),))


class LookTest(unittest.TestCase):
    def look(self, function, *others):
        """What looks tells of the first of these functions; of all of them it is what the second account says."""
        library = library_with(function, *others)
        self.assertIs(is_library(library), True)
        found = looks(library)
        self.assertEqual(found, oracle_texts.looks_of(library))
        self.assertEqual(found[1:], looks(library_with(*[self.moved(other) for other in others])))
        return found[0]

    def moved(self, function):
        """The function with all that it calls one place ahead."""
        body = tuple(row[:2] + (row[2] - 1,) + row[3:] if row[0] == "call" else row for row in function[3])
        return function[:3] + (body,)

    def result(self, function, *others):
        return self.look(function, *others)[1]

    def calm(self, function, *others):
        return self.look(function, *others)[0]

    def reads(self, function, *others):
        return self.look(function, *others)[2]

    def blind(self, function, *others):
        return self.look(function, *others)[3]


class TestForm(LookTest):
    def test_the_interface(self):
        self.assertEqual(looks.__module__, "keptcalls.texts")
        self.assertEqual(looks(library=COUNTER), looks(COUNTER))

    def test_a_library_of_no_function(self):
        self.assertEqual(looks(EMPTY), [])

    def test_the_libraries_of_the_document(self):
        self.assertEqual(looks(COUNTER), [(True, "made", (), True), (False, "none", ((0, 0),), True),
                                          (True, "none", ((0, 0),), True)])
        self.assertEqual(looks(PAIR), [(True, "made", (), True), (False, "none", ((0, 0), (0, 1)), True),
                                       (True, "none", ((0, 0), (0, 1)), True), (False, "none", ((0, 0),), True),
                                       (False, "none", ((0, 1),), True)])

    def test_other_libraries(self):
        self.assertEqual(looks(BOXES), [(True, "made", (), True), (True, "given", ((1, 1),), True),
                                        (True, "none", ((0, 0),), True), (False, "none", (), True),
                                        (False, "none", (), True)])
        self.assertEqual(looks(BOX), [(False, "both", ((1, 1),), True), (True, "none", (), False),
                                      (False, "none", (), True), (True, "made", (), True), (True, "none", (), True)])

    def test_the_kinds_of_values(self):
        for library in (COUNTER, PAIR, BOX, BOXES):
            found = looks(library)
            self.assertIs(type(found), list)
            self.assertEqual(len(found), len(library[2]))
            for look in found:
                self.assertEqual([type(part) for part in look], [bool, str, tuple, bool])
                for read in look[2]:
                    self.assertEqual((type(read), [type(part) for part in read]), (tuple, [int, int]))

    def test_the_list_is_new(self):
        found = looks(COUNTER)
        found.clear()
        self.assertEqual(len(looks(COUNTER)), 3)

    def test_what_is_no_library(self):
        for thing in NO_LIBRARIES:
            with self.assertRaises(NoLibrary) as caught:
                looks(thing)
            self.assertIs(type(caught.exception), NoLibrary)


class TestInstructions(LookTest):
    def test_functions_of_one_instruction_or_two(self):
        self.assertEqual(self.look(MAKE), (True, "made", (), True))
        self.assertEqual(self.look(READ), (True, "none", ((0, 0),), True))
        self.assertEqual(self.look(WRITE), (False, "none", (), True))
        self.assertEqual(self.look(BUMP), (False, "none", ((0, 0),), True))
        self.assertEqual(self.look(SAME), (True, "none", (), False))
        self.assertEqual(self.look(GIVE), (True, "given", (), True))
        self.assertEqual(self.look(MAKE_OUTER), (True, "made", (), True))
        self.assertEqual(self.look(INNER), (True, "given", ((1, 1),), True))
        self.assertEqual(self.look(LINK), (False, "none", (), True))

    def test_numbers_are_none(self):
        body = (("number", 1, 2), ("add", 1, 1), ("copy", 1, 0), ("if", 1, 5), ("jump", 5), ("return", 1))
        self.assertEqual(self.look((1, (None, None), None, body)), (True, "none", (), True))
        self.assertEqual(self.look((1, (1, None), None, (("get", 1, 0, 0), ("return", 1)))), (True, "none", ((1, 0),), True))

    def test_functions_without_instructions_or_without_a_return(self):
        for sort in (None, 0, 1):
            self.assertEqual(self.look((0, (), sort, ())), (True, "none", (), True))
            self.assertEqual(self.look((2, (0, 1), sort, ())), (True, "none", (), True))
        self.assertEqual(self.look((1, (0, 0), 0, (("make", 1),))), (True, "none", (), True))
        self.assertEqual(self.look((1, (0, 0), 0, (("copy", 1, 0), ("fail", 3)))), (True, "none", (), True))

    def test_a_parameter_of_a_kind_is_given_and_other_variables_are_nothing(self):
        for many, at, word in ((2, 0, "given"), (2, 1, "given"), (1, 0, "given"), (1, 1, "none"), (0, 0, "none")):
            self.assertEqual(self.result((many, (0, 0), 0, (("return", at),))), word)

    def test_make(self):
        self.assertEqual(self.result((1, (0,), 0, (("make", 0), ("return", 0)))), "made")
        self.assertEqual(self.result((1, (0, 0), 0, (("make", 1), ("return", 0)))), "given")
        self.assertEqual(self.result((1, (0, 0), 0, (("make", 1), ("return", 1)))), "made")

    def test_copy(self):
        self.assertEqual(self.result((1, (0, 0), 0, (("copy", 1, 0), ("return", 1)))), "given")
        self.assertEqual(self.result((1, (0, 0), 0, (("copy", 0, 1), ("return", 0)))), "none")
        self.assertEqual(self.result((1, (0, 0), 0, (("make", 1), ("copy", 0, 1), ("return", 0)))), "made")
        # What the other variable becomes later is nothing to the copy.
        self.assertEqual(self.result((1, (0, 0), 0, (("copy", 1, 0), ("make", 0), ("return", 1)))), "given")

    def test_things_got_out_of_things(self):
        # Out of a given, a made, an empty variable, and of one that may have both.
        self.assertEqual(self.look((1, (1, 0), 0, (("get", 1, 0, 1), ("return", 1)))), (True, "given", ((1, 1),), True))
        self.assertEqual(self.look((1, (1, 0), 0, (("make", 0), ("get", 1, 0, 1), ("return", 1)))), (True, "made", (), True))
        self.assertEqual(self.look((0, (1, 0), 0, (("get", 1, 0, 1), ("return", 1)))), (True, "none", (), True))
        both = (("if", 2, 2), ("make", 0), ("get", 1, 0, 1), ("return", 1))
        self.assertEqual(self.look((1, (1, 0, None), 0, both)), (True, "both", ((1, 1),), True))
        # An empty variable's field takes away what was there.
        self.assertEqual(self.result((1, (0, 1), 0, (("get", 0, 1, 1), ("return", 0)))), "none")
        # What is got out of a given thing's inner thing is read, too.
        body = (("get", 1, 0, 1), ("get", 2, 1, 0), ("return", 2))
        self.assertEqual(self.look((1, (1, 0, None), None, body)), (True, "none", ((0, 0), (1, 1)), True))

    def test_numbers_got_out_of_things(self):
        self.assertEqual(self.reads((1, (0, None), None, (("make", 0), ("get", 1, 0, 0)))), ())
        self.assertEqual(self.reads((0, (0, None), None, (("get", 1, 0, 0),))), ())
        self.assertEqual(self.reads((1, (0, None), None, (("get", 1, 0, 0), ("make", 0), ("get", 1, 0, 0)))), ((0, 0),))

    def test_put(self):
        # Into a given thing: a number, a made thing, a given one, nothing; all of these bar a function from being calm.
        self.assertIs(self.calm((1, (1, None), None, (("put", 0, 0, 1),))), False)
        self.assertIs(self.calm((1, (1, 0), None, (("make", 1), ("put", 0, 1, 1)))), False)
        self.assertIs(self.calm((2, (1, 0), None, (("put", 0, 1, 1),))), False)
        self.assertIs(self.calm((1, (1, 0), None, (("put", 0, 1, 1),))), False)
        # Into a made thing: only the given one does.
        self.assertIs(self.calm((0, (1, None), None, (("make", 0), ("put", 0, 0, 1),))), True)
        self.assertIs(self.calm((1, (None, 1), None, (("make", 1), ("put", 1, 0, 0),))), True)
        self.assertIs(self.calm((0, (1, 0), None, (("make", 0), ("make", 1), ("put", 0, 1, 1)))), True)
        self.assertIs(self.calm((1, (0, 1), None, (("make", 1), ("put", 1, 1, 0)))), False)
        self.assertIs(self.calm((0, (1, 0), None, (("make", 0), ("put", 0, 1, 1)))), True)
        # Into nothing likewise.
        self.assertIs(self.calm((0, (1, None), None, (("put", 0, 0, 1),))), True)
        self.assertIs(self.calm((0, (1, 0), None, (("make", 1), ("put", 0, 1, 1)))), True)
        self.assertIs(self.calm((1, (0, 1), None, (("put", 1, 1, 0),))), False)

    def test_put_where_both_may_be_there(self):
        for body in ((("if", 2, 2), ("make", 0), ("put", 0, 0, 2)), (("if", 2, 2), ("jump", 3), ("make", 0), ("put", 0, 0, 2))):
            self.assertIs(self.calm((1, (1, 0, None), None, body)), False)
        body = (("make", 1), ("if", 2, 3), ("make", 0), ("put", 1, 1, 0))
        self.assertIs(self.calm((1, (0, 1, None), None, body)), False)

    def test_a_thing_put_into_a_made_one_is_made_all_the_same(self):
        # The function is not calm, and is told by the rules, no more.
        body = (("make", 1), ("put", 1, 1, 0), ("get", 2, 1, 1), ("get", 3, 2, 0), ("return", 2))
        self.assertEqual(self.look((1, (0, 1, 0, None), 0, body)), (False, "made", (), True))

    def test_same(self):
        for some in ((0, 0, None), (1, 1, None)):
            self.assertIs(self.blind((2, some, None, (("same", 2, 0, 1), ("return", 2)))), False)
            self.assertIs(self.blind((0, some, None, (("same", 2, 0, 1), ("return", 2)))), False)
            self.assertIs(self.blind((2, some, None, (("return", 2),))), True)
            self.assertIs(self.blind((2, some, None, (("return", 2), ("same", 2, 0, 1)))), True)


class TestWays(LookTest):
    def test_ways_that_come_together(self):
        # Variable 1 is given, 2 is not; one way leads past what is done to variable 1, or 2.
        for at, row, word in ((1, ("make", 1), "both"), (1, ("copy", 1, 2), "given"), (1, ("copy", 1, 1), "given"),
                              (2, ("make", 2), "made"), (2, ("copy", 2, 1), "given"), (2, ("copy", 2, 2), "none")):
            self.assertEqual(self.result((2, (None, 0, 0), 0, (("if", 0, 2), row, ("return", at)))), word)
        # Each of two ways does something to it.
        for one, other, word in ((("make", 2), ("copy", 2, 1), "both"), (("copy", 2, 1), ("make", 2), "both"),
                                 (("make", 2), ("make", 2), "made"), (("copy", 2, 1), ("copy", 2, 1), "given"),
                                 (("copy", 2, 3), ("make", 2), "made"), (("copy", 2, 3), ("copy", 2, 3), "none")):
            body = (("if", 0, 3), one, ("jump", 4), other, ("return", 2))
            self.assertEqual(self.result((2, (None, 0, 0, 0), 0, body)), word)

    def test_several_returns(self):
        for first, second, word in ((1, 2, "both"), (1, 1, "given"), (2, 2, "made"), (1, 3, "given"), (3, 2, "made"),
                                    (3, 3, "none")):
            body = (("make", 2), ("if", 0, 3), ("return", first), ("return", second))
            self.assertEqual(self.result((2, (None, 0, 0, 0), 0, body)), word)
        # The end of the function is no return.
        self.assertEqual(self.result((2, (None, 0), 0, (("if", 0, 2), ("return", 1)))), "given")
        self.assertEqual(self.result((2, (None, 0), 0, (("if", 0, 2), ("return", 1), ("fail", 1)))), "given")

    def test_ways_that_no_call_takes(self):
        # Variable 1 is 0 in each call, and the text has the way all the same.
        self.assertEqual(self.look((1, (0, None), 0, (("if", 1, 3), ("make", 0), ("return", 0), ("return", 0)))),
                         (True, "both", (), True))
        self.assertEqual(self.look((1, (0, None), None, (("if", 1, 2), ("return", 1), ("put", 0, 0, 1)))),
                         (False, "none", (), True))
        self.assertEqual(self.look((2, (0, 0, None), None, (("number", 2, 0), ("if", 2, 3), ("fail", 1), ("same", 2, 0, 1)))),
                         (True, "none", (), False))
        self.assertEqual(self.look((1, (0, None), None, (("number", 1, 1), ("if", 1, 3), ("get", 1, 0, 0)))),
                         (True, "none", ((0, 0),), True))
        # A thing is had at once behind "make", and an empty variable is always an error, and so is a call of what fails.
        self.assertEqual(self.result((1, (0, 0), 0, (("make", 1), ("if", 1, 3), ("return", 0)))), "given")
        self.assertEqual(self.result((1, (0, 0, None), 0, (("get", 2, 1, 0), ("return", 0)))), "given")
        self.assertEqual(self.look((1, (0, None), 0, (("call", 1, 1, ()), ("put", 0, 0, 1), ("return", 0))),
                                   (0, (), None, (("fail", 1),))), (False, "given", (), True))

    def test_instructions_that_no_way_leads_to(self):
        for ends in (("return", 2), ("fail", 0), ("jump", 5)):
            body = (ends, ("put", 0, 0, 2), ("same", 2, 0, 1), ("get", 2, 0, 0), ("call", 2, 1, (0, 2)))
            self.assertEqual(self.look((2, (0, 0, None), None, body), WRITE), (True, "none", (), True))
        self.assertEqual(self.result((1, (0, 0), 0, (("make", 1), ("return", 1), ("return", 0)))), "made")
        self.assertEqual(self.result((1, (0, 0), 0, (("jump", 2), ("return", 0), ("return", 1)))), "none")
        self.assertEqual(self.result((1, (0, 0), 0, (("jump", 2), ("make", 0), ("return", 0)))), "given")
        # An "if" behind a return leads nowhere either.
        self.assertEqual(self.result((1, (0, None), 0, (("fail", 1), ("if", 1, 3), ("fail", 2), ("return", 0)))), "none")

    def test_if_and_jump_to_the_next_place_and_to_the_end(self):
        self.assertEqual(self.result((1, (0, None), 0, (("if", 1, 1), ("jump", 2), ("return", 0)))), "given")
        self.assertEqual(self.result((1, (0, None), 0, (("if", 1, 2), ("return", 0)))), "given")
        self.assertEqual(self.result((1, (0, None), 0, (("jump", 2), ("return", 0)))), "none")
        self.assertEqual(self.result((1, (0,), 0, (("if", 0, 2), ("return", 0)))), "given")

    def test_reads_are_ascending_and_each_is_there_once(self):
        body = (("get", 2, 0, 1), ("get", 3, 0, 0), ("get", 3, 1, 0), ("get", 2, 0, 1), ("get", 3, 2, 0))
        self.assertEqual(self.reads((2, (1, 0, 0, None), None, body)), ((0, 0), (1, 0), (1, 1)))

    def test_a_number_makes_no_variable_what_a_thing_makes_it(self):
        # The number that is got out of a given thing is no given thing.
        self.assertEqual(self.look((1, (0, None, 1), None, (("get", 1, 0, 0), ("make", 2), ("put", 2, 0, 1), ("return", 1)))),
                         (True, "none", ((0, 0),), True))
        self.assertEqual(self.look((1, (0, None, 1), None, (("call", 1, 1, (0,)), ("make", 2), ("put", 2, 0, 1), ("return", 1))),
                                   READ), (True, "none", ((0, 0),), True))


class TestCalls(LookTest):
    def test_the_results_of_called_functions(self):
        def caller(*args):
            return (2, (0, 0, 0, 0, None), 0, (("make", 2), ("call", 3, 1, args), ("return", 3)))

        self.assertEqual(self.result(caller(), MAKE), "made")
        self.assertEqual(self.result(caller(0), GIVE), "given")
        self.assertEqual(self.result(caller(2), GIVE), "made")
        self.assertEqual(self.result(caller(3), GIVE), "none")
        self.assertEqual(self.result(caller(0), NEVER), "none")
        # All arguments of kinds count, whichever of them is returned.
        for other in (FIRST, SECOND):
            self.assertEqual(self.result(caller(0, 2), other), "both")
            self.assertEqual(self.result(caller(2, 0), other), "both")
            self.assertEqual(self.result(caller(2, 2), other), "made")
            self.assertEqual(self.result(caller(0, 1), other), "given")
            self.assertEqual(self.result(caller(3, 2), other), "made")
        both = (1, (0, None), 0, (("if", 1, 3), ("make", 0), ("jump", 3), ("return", 0)))
        self.assertEqual(self.result(caller(0), both), "both")
        self.assertEqual(self.result(caller(2), both), "made")
        self.assertEqual(self.result(caller(3), both), "made")

    def test_arguments_that_are_numbers_or_of_another_kind(self):
        pick = (2, (None, 0), 0, (("return", 1),))
        self.assertEqual(self.result((2, (None, 0, 0), 0, (("call", 2, 1, (0, 1)), ("return", 2))), pick), "given")
        inner = (("call", 2, 1, (0, 1)), ("return", 2))
        of_both_kinds = (2, (1, 0), 0, (("return", 1),))
        # The outer thing is given, so the result may be, though the function returns its other argument.
        self.assertEqual(self.result((1, (1, 0, 0), 0, (("make", 1),) + inner), of_both_kinds), "both")
        self.assertEqual(self.result((0, (1, 0, 0), 0, (("make", 0),) + inner), of_both_kinds), "made")

    def test_what_was_there_is_gone_behind_a_call(self):
        self.assertEqual(self.result((1, (0,), 0, (("call", 0, 1, ()), ("return", 0))), MAKE), "made")
        self.assertEqual(self.result((1, (0, 0), 0, (("call", 0, 1, (1,)), ("return", 0))), GIVE), "none")
        self.assertEqual(self.result((1, (0,), 0, (("call", 0, 1, (0,)), ("return", 0))), GIVE), "given")

    def test_calls_of_functions_that_are_not_calm(self):
        caller = (2, (0, None, 0), None, (("make", 2), ("call", 1, 1, (2, 1))))
        # Though it writes a thing that was made here.
        self.assertIs(self.calm(caller, WRITE), False)
        self.assertIs(self.calm(caller[:3] + ((("return", 1), ("call", 1, 1, (2, 1))),), WRITE), True)
        through = (1, (0, None), None, (("call", 1, 2, (0,)),))
        self.assertEqual(self.look((1, (0, None), None, (("call", 1, 1, (0,)),)), through, BUMP),
                         (False, "none", ((0, 0),), True))

    def test_calls_of_functions_that_are_not_blind(self):
        caller = (0, (0, None), None, (("call", 1, 1, (0, 0)),))
        self.assertIs(self.blind(caller, SAME), False)
        self.assertIs(self.blind(caller[:3] + ((("fail", 2), ("call", 1, 1, (0, 0))),), SAME), True)
        through = (2, (0, 0, None), None, (("call", 2, 2, (0, 1)),))
        self.assertIs(self.blind((0, (0, None), None, (("call", 1, 1, (0, 0)),)), through, SAME), False)

    def test_reads_of_called_functions(self):
        # Also where no argument is given, as the words say.
        for body in ((("call", 1, 1, (0,)),), (("make", 0), ("call", 1, 1, (0,)))):
            for many in (0, 1):
                self.assertEqual(self.reads((many, (0, None), None, body), READ), ((0, 0),))
        self.assertEqual(self.reads((1, (0, None), None, (("jump", 2), ("call", 1, 1, (0,)))), READ), ())
        own = (1, (1, 0, None), None, (("get", 1, 0, 1), ("call", 2, 1, (1,)), ("get", 2, 0, 0)))
        self.assertEqual(self.reads(own, READ), ((0, 0), (1, 0), (1, 1)))

    def test_a_function_is_looked_at_alone(self):
        for some in itertools.permutations((MAKE, READ, WRITE, SAME, GIVE), 3):
            self.assertEqual(looks(library_with(*some)), [self.look(one) for one in some])


class TestDrawn(unittest.TestCase):
    def test_drawn_libraries(self):
        found = set()
        for seed in range(4000):
            for library in (drawn.wild_library(seed), drawn.library_of(seed % 300)):
                answer = looks(library)
                self.assertEqual(answer, oracle_texts.looks_of(library), library)
                self.assertEqual(looks(library[:3] + ((),)), answer)
                for calm, result, reads, blind in answer:
                    found |= {("calm", calm, result), ("blind", blind, result), ("reads", bool(reads), result)}
        words = ("none", "made", "given", "both")
        self.assertEqual(found, set(itertools.product(("calm", "blind", "reads"), (True, False), words)))

    def test_which_functions_are_exported_means_nothing(self):
        for exported in ((), (0,), (1, 2), (0, 1, 2)):
            self.assertEqual(looks(COUNTER[:3] + (exported,)), looks(COUNTER))
