import itertools
import random
import unittest

from keptcalls.comparing import compare
from keptcalls.errors import NoChoice, NoLibrary
from keptcalls.rooms import is_choice, told
from keptcalls.texts import passes
from tests import drawn
from tests.samples import (BOX, BOXES, BUMP, COUNTER, EMPTY, GIVE, INNER, LINK, MAKE, MAKE_OUTER, NO_LIBRARIES, READ, SAME,
                           WRITE, choice_with, library_with, marks, plain)

KEYS, RESULTS = ("name", "thing", "content"), ("shared", "copied")
CLEARS = [row for many in range(4) for row in itertools.combinations(((0, 0), (1, 0), (1, 1)), many)]
# A new thing with the number of the one that is passed; that one, or a new one.
ANEW = (1, (0, None, 0), 0, (("get", 1, 0, 0), ("make", 2), ("put", 2, 0, 1), ("return", 2)))
EITHER = (1, (0, None), 0, (("get", 1, 0, 0), ("if", 1, 3), ("make", 0), ("return", 0)))
NOTHING = (1, (0, 0), 0, (("return", 1),))
# Functions without parameters of kinds: of a number, of a thing that is made and read, of one that is compared, too.
NEXT = (1, (None,), None, (("add", 0, 1), ("return", 0)))
MADE_AND_READ = (0, (0, None), None, (("make", 0), ("call", 1, 1, (0,)), ("return", 1)))
COMPARED = (0, (0, None), None, (("make", 0), ("call", 1, 1, (0,)), ("same", 1, 0, 0), ("return", 1)))
NUMBERED = (2, (None, None, 0), 0, (("make", 2), ("put", 2, 0, 0), ("return", 2)))


def all_settings(clears=CLEARS):
    return list(itertools.product(KEYS, RESULTS, (0, 1), (1, 2, 3), clears))


class PassTest(unittest.TestCase):
    def passing(self, function, *others):
        """The (key, result, clears) with which the first of these functions passes, whatever errors and size are."""
        library = library_with(function, *others)
        found = {}
        for settings in all_settings():
            choice = (settings,) + (None,) * len(others)
            self.assertIs(is_choice(library, choice), True)
            answer = passes(library, choice)
            self.assertIn(answer, ([], [0]))
            found.setdefault((settings[0], settings[1], settings[4]), set()).add(answer == [])
        self.assertEqual({len(answers) for answers in found.values()}, {1})
        return {one for one, answers in found.items() if answers == {True}}

    def these(self, keys, results, *needed):
        """All (key, result, clears) of these keys and results with clears that have all that are needed."""
        return {(key, result, clears) for key in keys for result in results for clears in CLEARS if set(needed) <= set(clears)}


class TestForm(PassTest):
    def test_the_interface(self):
        self.assertEqual(passes.__module__, "keptcalls.texts")
        choice = choice_with(COUNTER, f2=marks("thing"))
        self.assertEqual(passes(choice=choice, library=COUNTER), [2])
        self.assertIs(type(passes(COUNTER, choice)), list)

    def test_the_example_of_the_document(self):
        self.assertEqual([passes(COUNTER, choice_with(COUNTER, f2=marks("thing", clears=clears))) for clears in [(), ((0, 0),)]],
                         [[2], []])

    def test_a_plain_choice_passes(self):
        for library in (COUNTER, BOX, BOXES, EMPTY, library_with(WRITE, SAME)):
            self.assertEqual(passes(library, plain(library)), [])

    def test_the_functions_are_ascending(self):
        library = library_with(READ, WRITE, SAME, BUMP, GIVE)
        for some in itertools.product((False, True), repeat=5):
            choice = tuple(marks("name") if one else None for one in some)
            self.assertEqual(passes(library, choice), [f for f in range(5) if some[f]])
        self.assertEqual(passes(library, (marks("thing", clears=((0, 0),)),) * 5), [1, 3])
        self.assertEqual(passes(library, (marks("content"),) * 5), [1, 2, 3, 4])
        self.assertEqual(passes(library, (marks("content"), marks("name"), marks("thing"), None, marks("name"))), [1, 4])

    def test_each_function_is_looked_at_alone(self):
        for seed in range(60):
            library = drawn.library_of(seed)
            choice = drawn.choice_of(seed, library, 5)
            found = [f for f in range(5) if passes(library, plain(library)[:f] + (choice[f],) + plain(library)[f + 1:])]
            self.assertEqual(passes(library, choice), found)

    def test_the_list_is_new(self):
        choice = choice_with(COUNTER, f1=marks("thing"))
        passes(COUNTER, choice).clear()
        self.assertEqual(passes(COUNTER, choice), [1])

    def test_what_is_no_library_or_no_choice(self):
        for thing in NO_LIBRARIES:
            for choice in (plain(COUNTER), None, ()):
                with self.assertRaises(NoLibrary) as caught:
                    passes(thing, choice)
                self.assertIs(type(caught.exception), NoLibrary)
        for thing in (None, True, 0, "", (), [None] * 3, (None,) * 2, (None,) * 4, (None, None, ()), (None, None, True),
                      choice_with(COUNTER, f2=marks("thing", size=4)), choice_with(COUNTER, f2=marks("thing", clears=((1, 0),)))):
            with self.assertRaises(NoChoice) as caught:
                passes(COUNTER, thing)
            self.assertIs(type(caught.exception), NoChoice)


class TestWays(PassTest):
    def test_not_calm(self):
        for function in (WRITE, BUMP, LINK):
            self.assertEqual(self.passing(function), set())
        self.assertEqual(self.passing((0, (0, None), None, (("make", 0), ("call", 1, 1, (0, 1)))), WRITE), set())
        self.assertEqual(self.passing((1, (0, 1), 1, (("make", 1), ("put", 1, 1, 0), ("return", 1)))), set())

    def test_a_number(self):
        self.assertEqual(self.passing(READ), self.these(["content"], RESULTS) | self.these(["thing"], RESULTS, (0, 0)))
        twice = (2, (0, 1, None), None, (("get", 2, 0, 0), ("get", 2, 1, 0), ("return", 2)))
        self.assertEqual(self.passing(twice),
                         self.these(["content"], RESULTS) | self.these(["thing"], RESULTS, (0, 0), (1, 0)))

    def test_a_number_that_is_not_blind(self):
        self.assertEqual(self.passing(SAME), self.these(["thing"], RESULTS))
        caller = (2, (0, 0, None), None, (("call", 2, 1, (0, 1)), ("get", 2, 0, 0)))
        self.assertEqual(self.passing(caller, SAME), self.these(["thing"], RESULTS, (0, 0)))

    def test_a_thing_that_never_is(self):
        self.assertEqual(self.passing(NOTHING), self.these(["content", "thing"], RESULTS))

    def test_a_thing_that_is_made(self):
        self.assertEqual(self.passing(ANEW), self.these(["content"], ["copied"]) | self.these(["thing"], ["copied"], (0, 0)))
        not_blind = (2, (0, 0, None), 0, (("same", 2, 0, 1), ("make", 0), ("put", 0, 0, 2), ("return", 0)))
        self.assertEqual(self.passing(not_blind), self.these(["thing"], ["copied"]))

    def test_a_thing_that_is_given(self):
        self.assertEqual(self.passing(GIVE), self.these(["thing"], ["shared"]))
        self.assertEqual(self.passing(INNER), self.these(["thing"], ["shared"], (1, 1)))

    def test_a_thing_that_is_made_or_given(self):
        self.assertEqual(self.passing(EITHER), set())

    def test_without_parameters_of_kinds(self):
        self.assertEqual(self.passing(NEXT), self.these(KEYS, RESULTS))
        self.assertEqual(self.passing((0, (), None, (("fail", 1),))), self.these(KEYS, RESULTS))
        for function in (MAKE, MAKE_OUTER, NUMBERED):
            self.assertEqual(self.passing(function), self.these(KEYS, ["copied"]))
        self.assertEqual(self.passing((1, (None, 0), 0, (("return", 1),))), self.these(KEYS, RESULTS))

    def test_without_parameters_of_kinds_but_with_reads(self):
        # With "thing", too, the reads need not be in clears.
        self.assertEqual(self.passing(MADE_AND_READ, READ), self.these(KEYS, RESULTS))

    def test_without_parameters_of_kinds_but_not_blind(self):
        self.assertEqual(self.passing(COMPARED, READ), self.these(["thing"], RESULTS, (0, 0)))
        caller = (0, (0, None, 0), 0, (("make", 0), ("call", 1, 1, (0, 0)), ("return", 0)))
        self.assertEqual(self.passing(caller, SAME), self.these(["thing"], ["copied"]))

    def test_one_parameter_of_a_kind_is_enough(self):
        for sorts in ((None, 0, None), (0, None, None)):
            at = sorts.index(0)
            function = (2, sorts, None, (("get", 2, at, 0), ("return", 2)))
            self.assertEqual(self.passing(function), self.these(["content"], RESULTS) | self.these(["thing"], RESULTS, (0, 0)))
        # A variable of a kind that is no parameter is none.
        self.assertEqual(self.passing((1, (None, 0), None, (("make", 1),))), self.these(KEYS, RESULTS))

    def test_instructions_that_no_way_leads_to_do_not_count(self):
        self.assertEqual(self.passing((2, (0, 0, None), None, (("jump", 4), ("put", 0, 0, 2), ("same", 2, 0, 1), ("get", 2, 0, 0)))),
                         self.these(["content", "thing"], RESULTS))


def choices_that_pass(seed, library, many):
    """Some choices of a library that pass, most of them with functions that are not plain."""
    draw = random.Random(f"passing {seed}")
    fields = [(kind, i) for kind, row in enumerate(library[1]) for i in range(len(row))]
    clears = [row for length in range(len(fields) + 1) for row in itertools.combinations(fields, length)]
    offers = [[] for function in library[2]]
    for settings in draw.sample(all_settings(clears), min(30, 36 * len(clears))):
        others = passes(library, (settings,) * len(offers))
        for f in range(len(offers)):
            if f not in others:
                offers[f].append(settings)
    return [tuple(draw.choice(some) if some and draw.random() < 0.8 else None for some in offers) for _ in range(many)]


class TestSafe(unittest.TestCase):
    def test_a_choice_that_passes_tells_what_the_plain_one_tells(self):
        hits = {key: 0 for key in KEYS}
        for seed in range(260):
            library = drawn.library_of(seed) if seed % 2 else drawn.wild_library(seed)
            slots = drawn.slots_of(seed, library)
            for at, choice in enumerate(choices_that_pass(seed, library, 3)):
                self.assertEqual(passes(library, choice), [])
                for more in range(3):
                    history = drawn.history_of(100 * seed + 10 * at + more, library, slots, 60)
                    tellings, counts = told(library, slots, history, choice)
                    self.assertEqual(tellings, told(library, slots, history, plain(library))[0], (library, slots, choice))
                    for key in {settings[0] for settings in choice if settings}:
                        hits[key] += sum(counts)
        for key in KEYS:
            self.assertGreater(hits[key], 1000)

    def test_none_of_them_is_apart(self):
        words = {"safe": 0, "full": 0}
        for seed in range(500, 640):
            library = drawn.library_of(seed) if seed % 2 else drawn.wild_library(seed)
            for choice in choices_that_pass(seed, library, 2):
                words[compare(library, drawn.slots_of(seed, library), choice, 60)[0]] += 1
        self.assertGreater(words["safe"], 100)

    def test_with_other_errors_and_sizes_and_with_more_clears(self):
        for seed in range(200, 300):
            library = drawn.library_of(seed)
            fields = [(kind, i) for kind, row in enumerate(library[1]) for i in range(len(row))]
            for choice in choices_that_pass(seed, library, 1):
                for errors, size, more in itertools.product((0, 1), (1, 2, 3), [()] + [(one,) for one in fields] + [tuple(fields)]):
                    other = tuple(settings and settings[:2] + (errors, size, tuple(sorted({*settings[4], *more})))
                                  for settings in choice)
                    self.assertEqual(passes(library, other), [])

    def test_a_choice_that_does_not_pass_may_be_safe_or_apart(self):
        words = set()
        for library, slots, choice in drawn.cases(0, 60):
            if passes(library, choice):
                words.add(compare(library, slots, choice, 60)[0])
        self.assertLessEqual({"safe", "apart"}, words)

    def test_each_part_is_needed(self):
        """For each part of [11] a choice that lacks it alone, and is apart."""
        cases = [
            # Not calm.
            (library_with(MAKE, BUMP, READ, modulus=2), (None, marks("thing", clears=((0, 0),)), None), [1]),
            # Not blind with "content".
            (library_with(MAKE, SAME), (None, marks("content")), [1]),
            # Given with "content", and given with "copied".
            (library_with(MAKE, GIVE, BUMP, READ, modulus=2), (None, marks("content"), None, None), [1]),
            (library_with(MAKE, GIVE, BUMP, READ, modulus=2), (None, marks("thing", "copied"), None, None), [1]),
            # Made with "shared".
            (library_with(MAKE, BUMP, READ, modulus=2), (marks("name"), None, None), [0]),
            # Reads that are not in clears.
            (library_with(MAKE, BUMP, READ, modulus=2), (None, None, marks("thing", clears=((1, 0),))), [2]),
            # A key "name".
            (library_with(MAKE, BUMP, READ, modulus=2), (None, None, marks("name", clears=((0, 0),))), [2]),
        ]
        for library, choice, functions in cases:
            self.assertEqual(passes(library, choice), functions)
            self.assertIn("apart", [compare(library, slots, choice, 400)[0] for slots in ((0,), (0, 0))], (library, choice))
