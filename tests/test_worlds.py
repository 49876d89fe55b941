import itertools
import unittest

from keptcalls.rooms import is_choice, told
from keptcalls.worlds import renumbered, worlds
from tests import drawn, oracle
from tests.samples import BOXES, COUNTER, EMPTY, call, choice_with, marks, plain

BOXES_HISTORY = [call(0, k=0), call(1, 0, k=1), call(3, 1, 2), call(2, 1), call(0, k=0), call(2, 1), call(4, 0, 1),
                 call(1, 0), ("drop", 0)]
KEYS, RESULTS = ("name", "thing", "content"), ("shared", "copied")


class WorldTest(unittest.TestCase):
    def follows(self, library, slots, history, choice):
        """What is told and the worlds behind a history are what the oracle says."""
        marked, tellings, hits = oracle.teller_behind(library, slots, history, choice)
        plainly = oracle.teller_behind(library, slots, history, plain(library))[0]
        self.assertEqual(told(library, slots, history, choice), (tellings, hits))
        both = worlds(library, slots, history, choice)
        self.assertEqual(both, (plainly.world(), marked.world()))
        self.assertEqual(renumbered(library, slots, choice, both[1]), marked.renumbered())
        self.assertEqual(renumbered(library, slots, plain(library), both[0]), plainly.renumbered())
        return both


class TestWorlds(WorldTest):
    def test_the_interface(self):
        for one in (worlds, renumbered):
            self.assertEqual(one.__module__, "keptcalls.worlds")

    def test_no_deed(self):
        for library, slots in ((COUNTER, (0,)), (COUNTER, ()), (BOXES, (1, 0)), (EMPTY, (0, 0)), (EMPTY, ())):
            start = ((None,) * len(slots), (), ((),) * len(library[2]))
            mark = marks("thing")
            self.assertEqual(worlds(library, slots, [], plain(library)), (start, start))
            self.assertEqual(worlds(library, slots, [], (mark,) * len(library[2])), (start, start))

    def test_some_deeds(self):
        choice = choice_with(BOXES, f2=marks("thing", size=2), f1=marks("name", "copied"))
        plainly, marked = worlds(BOXES, (1, 0), BOXES_HISTORY[:5], choice)
        self.assertEqual(plainly, ((2, 1), ((1, 0, (2,)), (2, 1, (0, 3)), (3, 0, (0,))), ((),) * 5))
        # The copy of the inner thing has the name 2, so the second outer thing and its inner one have 3 and 4.
        self.assertEqual(marked, ((3, 1), ((1, 0, (2,)), (2, 0, (0,)), (3, 1, (0, 4)), (4, 0, (0,))),
                                  ((), (((0,), (), ("thing", 2)),), (((1,), (1,), ("number", 2)),), (), ())))

    def test_worlds_that_are_told_otherwise(self):
        choice = choice_with(COUNTER, f1=marks("thing"))
        history = [call(0, k=0), call(1, 0), call(1, 0), call(2, 0)]
        self.assertEqual(told(COUNTER, (0,), history, choice)[0][-1], 1)
        self.assertEqual(worlds(COUNTER, (0,), history, choice),
                         (((0,), ((0, 0, (0,)),), ((),) * 3),
                          ((0,), ((0, 0, (1,)),), ((), (((0,), (0,), ("number", 0)),), ()))))

    def test_with_all_functions_plain_both_are_one(self):
        for many in range(len(BOXES_HISTORY) + 1):
            one, other = worlds(BOXES, (1, 0), BOXES_HISTORY[:many], plain(BOXES))
            self.assertEqual(one, other)
            self.assertEqual(one[2], ((),) * 5)

    def test_all_settings_behind_some_deeds_and_behind_sixty(self):
        sixty = (BOXES_HISTORY * 7)[:60]
        clears = [(), ((0, 0),), ((1, 1),), ((0, 0), (1, 1))]
        for settings in itertools.product(KEYS, RESULTS, (0, 1), (1, 2, 3), clears):
            for choice in ((settings,) * 5, (None, settings, settings, None, None), (settings, None, None, None, settings)):
                self.follows(BOXES, (1, 0), BOXES_HISTORY, choice)
                self.follows(BOXES, (1, 0), sixty, choice)

    def test_drawn_ones(self):
        for seed, (library, slots, choice) in enumerate(drawn.cases(0, 300)):
            self.assertIs(is_choice(library, choice), True)
            for many in (0, 1, 5, 20, 60):
                self.follows(library, slots, drawn.history_of(seed, library, slots, many), choice)

    def test_a_world_is_of_tuples(self):
        def look(value):
            self.assertIn(type(value), (tuple, int, str, type(None)))
            for member in value if isinstance(value, tuple) else ():
                look(member)

        for settings in (marks("name"), marks("thing"), marks("content", "copied", 1, 3)):
            look(worlds(BOXES, (1, 0), BOXES_HISTORY, (settings,) * 5))
