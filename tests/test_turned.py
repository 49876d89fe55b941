import itertools
import unittest

from keptcalls.comparing import compare
from keptcalls.errors import NoLimit, NoNumber
from keptcalls.rooms import is_choice, told
from keptcalls.turned import most_hits, neighbours
from keptcalls.users import deeds
from keptcalls.worlds import worlds
from tests import drawn
from tests.samples import (BOXES, BUMP, COUNTER, EMPTY, FAR, FAR_CHOICE, GIVE, MAKE, PAIR, READ, SAME, call, choice_with,
                           library_with, marks, plain)

HELD = marks("thing")
SAFE = (None, None, None, HELD, HELD)
NEXT = (1, (None,), None, (("add", 0, 1), ("return", 0)))


def changes(settings, fields):
    """All changes of one thing alone, each with what it makes of the settings."""
    key, result, errors, size, clears = settings
    found = [(("plain",), None)]
    for other in ("content", "name", "thing"):
        found += [(("key", other), (other, result, errors, size, clears))] * (other != key)
    for other in ("copied", "shared"):
        found += [(("result", other), (key, other, errors, size, clears))] * (other != result)
    for other in (0, 1):
        found += [(("errors", other), (key, result, other, size, clears))] * (other != errors)
    for other in {1: (2,), 2: (1, 3), 3: (2,)}[size]:
        found.append((("size", other), (key, result, errors, other, clears)))
    for field in sorted(fields):
        found.append((("clears", field), (key, result, errors, size, tuple(sorted(set(clears) ^ {field})))))
    return found


class NeighboursTest(unittest.TestCase):
    def told(self, library, slots, choice, limit):
        """What neighbours returns, each word and history held against what compare says of the choice changed so."""
        fields = [(kind, i) for kind, row in enumerate(library[1]) for i in range(len(row))]
        wanted = []
        for f, settings in enumerate(choice):
            for what, other in changes(settings, fields) if settings else []:
                changed = choice[:f] + (other,) + choice[f + 1:]
                self.assertIs(is_choice(library, changed), True)
                wanted.append((f, what, changed))
        answer = neighbours(library, slots, choice, limit)
        self.assertIs(type(answer), list)
        self.assertEqual([row[:2] for row in answer], [row[:2] for row in wanted])
        for (f, what, word, history), (g, how, changed) in zip(answer, wanted):
            right = compare(library, slots, changed, limit)
            self.assertEqual((type(f), word), (int, right[0]))
            if word == "apart":
                self.assertEqual((type(history), len(history)), (list, len(right[1])))
                self.assertEqual(history, right[1])
            else:
                self.assertIsNone(history)
        return answer


class TestNeighbours(NeighboursTest):
    def test_the_interface(self):
        for one in (neighbours, most_hits):
            self.assertEqual(one.__module__, "keptcalls.turned")

    def test_the_example_of_the_document(self):
        answer = self.told(PAIR, (0,), SAFE, 60)
        self.assertEqual([row[2] for row in answer], ["apart", "apart"] + ["safe"] * 5 + ["apart"] * 3 + ["safe"] * 6)
        whats = [("plain",), ("key", "content"), ("key", "name"), ("result", "copied"), ("errors", 1), ("size", 2),
                 ("clears", (0, 0)), ("clears", (0, 1))]
        self.assertEqual([row[:2] for row in answer], [(f, what) for f in (3, 4) for what in whats])

    def test_all_changes_in_their_order(self):
        settings = marks("name", "copied", 1, 2, ((0, 0), (1, 1)))
        answer = self.told(BOXES, (1,), choice_with(BOXES, f2=settings), 5)
        self.assertEqual([what for f, what, word, history in answer], [
            ("plain",), ("key", "content"), ("key", "thing"), ("result", "shared"), ("errors", 0), ("size", 1), ("size", 3),
            ("clears", (0, 0)), ("clears", (1, 0)), ("clears", (1, 1))])
        settings = marks("content", "shared", 0, 3, ((1, 0),))
        answer = self.told(BOXES, (1,), choice_with(BOXES, f0=settings), 5)
        self.assertEqual([what for f, what, word, history in answer], [
            ("plain",), ("key", "name"), ("key", "thing"), ("result", "copied"), ("errors", 1), ("size", 2),
            ("clears", (0, 0)), ("clears", (1, 0)), ("clears", (1, 1))])
        answer = self.told(BOXES, (1,), choice_with(BOXES, f4=marks("thing")), 5)
        self.assertEqual([what for f, what, word, history in answer][1:3], [("key", "content"), ("key", "name")])
        self.assertEqual([what for f, what, word, history in answer][5:7], [("size", 2), ("clears", (0, 0))])

    def test_each_settings(self):
        fields = ((), ((0, 0),))
        for settings in itertools.product(("name", "thing", "content"), ("shared", "copied"), (0, 1), (1, 2, 3), fields):
            self.told(COUNTER, (0,), choice_with(COUNTER, f2=settings), 12)

    def test_clears_taken_out_and_put_in(self):
        found = {}
        for clears in ((), ((0, 0),)):
            answer = self.told(COUNTER, (0,), choice_with(COUNTER, f2=marks("thing", clears=clears)), 60)
            found[clears] = [row for row in answer if row[1] == ("clears", (0, 0))][0]
        self.assertEqual(found[()], (2, ("clears", (0, 0)), "safe", None))
        self.assertEqual(found[((0, 0),)][:3], (2, ("clears", (0, 0)), "apart"))
        self.assertEqual(len(found[((0, 0),)][3]), 4)

    def test_no_function_that_is_not_plain(self):
        for library in (COUNTER, BOXES, EMPTY):
            self.assertEqual(self.told(library, (0,), plain(library), 1), [])
            # What is no limit is refused all the same.
            for limit in (0, 401, True, None):
                with self.assertRaises(NoLimit):
                    neighbours(library, (0,), plain(library), limit)

    def test_several_functions(self):
        choice = (marks("name", "copied"), None, marks("thing", clears=((0, 0),)))
        answer = self.told(COUNTER, (0,), choice, 60)
        self.assertEqual([row[0] for row in answer], [0] * 7 + [2] * 7)
        # A change of one function leaves the others' settings: only the plain one makes it unsafe here.
        self.assertEqual({row[2] for row in answer if row[0] == 0 and row[1] in (("plain",), ("errors", 1))}, {"safe"})

    def test_full(self):
        for limit in (1, 2, 5, 9):
            words = [row[2] for row in self.told(COUNTER, (0,), choice_with(COUNTER, f2=marks("thing", clears=((0, 0),))), limit)]
            self.assertIn("full", words)
        self.assertEqual(set(words), {"full", "safe", "apart"})

    def test_a_history_of_more_than_sixty_deeds(self):
        choice = choice_with(FAR, f3=FAR_CHOICE[3][:4] + (((1, 0),),))
        answer = self.told(FAR, (1,), choice, 400)
        lengths = {row[1]: len(row[3]) for row in answer if row[2] == "apart"}
        self.assertGreater(lengths[("clears", (1, 0))], 60)

    def test_kinds_of_no_fields(self):
        library = (2, ((), ()), (MAKE, SAME), (0, 1))
        answer = self.told(library, (0, 0), (None, marks("name")), 60)
        self.assertEqual([row[1] for row in answer], [("plain",), ("key", "content"), ("key", "thing"), ("result", "copied"),
                                                      ("errors", 1), ("size", 2)])

    def test_the_lists_are_new(self):
        answer = neighbours(PAIR, (0,), SAFE, 60)
        made = [answer] + [row[3] for row in answer if row[3] is not None]
        self.assertEqual(len({id(one) for one in made}), len(made))
        for one in made:
            one.clear()
        self.told(PAIR, (0,), SAFE, 60)

    def test_drawn_ones(self):
        words = set()
        for library, slots, choice in drawn.cases(0, 40, 2):
            words |= {row[2] for row in self.told(library, slots, choice, 25)}
        self.assertEqual(words, {"safe", "apart", "full"})


class HitsTest(unittest.TestCase):
    def by_all(self, library, slots, choice, many):
        """(the greatest number of hits or None, the number of marked worlds behind at most many deeds), by all histories."""
        every = deeds(library, slots)
        seen, most = set(), None
        for length in range(many + 1):
            for history in itertools.product(every, repeat=length):
                seen.add(worlds(library, slots, list(history), choice)[1])
                if length == many:
                    most = max(most or 0, sum(told(library, slots, list(history), choice)[1]))
        return most, len(seen)

    def told(self, library, slots, choice, many, limit):
        """What most_hits returns, whose history has so many deeds and so many hits."""
        answer = most_hits(library, slots, choice, many, limit)
        if answer is not None:
            self.assertEqual((type(answer), len(answer)), (tuple, 2))
            hits, history = answer
            self.assertEqual((type(hits), type(history), len(history)), (int, list, many))
            self.assertEqual(sum(told(library, slots, history, choice)[1]), hits)
            return hits
        return None

    def around(self, library, slots, choice, many):
        """At the number of worlds, just above it and just under it."""
        most, worlds_of = self.by_all(library, slots, choice, many)
        for limit in sorted({1, worlds_of - 1, worlds_of, worlds_of + 1, 400}):
            if 1 <= limit <= 400:
                self.assertEqual(self.told(library, slots, choice, many, limit), most if limit >= worlds_of else None,
                                 (library, slots, choice, many, limit, worlds_of))
        return most


class TestMostHits(HitsTest):
    def test_all_numbers_of_deeds(self):
        # A thing is made, and read once, before it can be read from the room.
        choice = choice_with(COUNTER, f2=marks("thing"))
        self.assertEqual([self.around(COUNTER, (0,), choice, many) for many in range(5)], [0, 0, 0, 1, 2])
        self.assertEqual([self.told(COUNTER, (0,), choice, many, 400) for many in (5, 6)], [3, 4])
        # Without it, a read of nothing is an error, and with errors 1 a hit the second time.
        choice = choice_with(COUNTER, f2=marks("thing", errors=1))
        self.assertEqual([self.told(COUNTER, (0,), choice, many, 400) for many in range(7)], [0, 0, 1, 2, 3, 4, 5])

    def test_no_deed_at_all(self):
        self.assertEqual(most_hits(COUNTER, (0,), choice_with(COUNTER, f2=marks("name")), 0, 1), (0, []))
        self.assertEqual(most_hits(EMPTY, (), (), 0, 1), (0, []))

    def test_no_such_history(self):
        for library in (EMPTY, COUNTER[:3] + ((),), COUNTER[:3] + ((1, 2),)):
            for many in range(1, 7):
                self.assertIsNone(most_hits(library, (), plain(library), many, 400))
        self.assertEqual(most_hits(EMPTY, (0,), (), 6, 1), (0, [("drop", 0)] * 6))

    def test_all_plain(self):
        self.assertEqual([self.around(COUNTER, (0,), plain(COUNTER), many) for many in range(4)], [0, 0, 0, 0])

    def test_hits_of_calls_by_functions_count(self):
        library = library_with((1, (None, None), None, (("call", 1, 1, (0,)), ("call", 1, 1, (0,)), ("call", 1, 1, (1,)))), NEXT,
                               modulus=2)
        choice = (None, marks("name", size=3))
        self.assertEqual([self.around(library, (), choice, many) for many in range(4)], [0, 1, 4, 7])
        # A hit of the calling function is one, and none of those that it does not call.
        both = (marks("name", size=2), marks("name", size=2))
        self.assertEqual([self.around(library, (), both, many) for many in range(4)], [0, 1, 4, 5])

    def test_a_way_of_few_hits_may_lead_to_more(self):
        # Function 0 is a hit again and again at once; function 1 is three hits once function 2 has been called.
        library = library_with(
            (0, (None,), None, (("call", 0, 3, (0,)),)),
            (0, (None,), None, (("number", 0, 1), ("call", 0, 3, (0,)), ("number", 0, 1), ("call", 0, 3, (0,)),
                                ("number", 0, 1), ("call", 0, 3, (0,)))),
            (0, (None,), None, (("number", 0, 1), ("call", 0, 3, (0,)))), NEXT, modulus=2)
        for size in (1, 2):
            choice = (None, None, None, marks("name", size=size))
            for many in range(5):
                self.around(library, (), choice, many)

    def test_worlds_as_they_are(self):
        # Two things of other names make two worlds, which would be one if they were renumbered.
        library = library_with(MAKE)
        slots, choice = (0, 0), (None,)
        found = {worlds(library, slots, list(history), choice)[1]
                 for many in range(3) for history in itertools.product(deeds(library, slots), repeat=many)}
        self.assertEqual(len(found), 7)
        self.assertIsNone(most_hits(library, slots, choice, 2, 6))
        self.assertEqual(self.told(library, slots, choice, 2, 7), 0)

    def test_worlds_behind_fewer_deeds_count(self):
        # The world of no deed is behind none again, as a hit of the room changes nothing.
        library = library_with(NEXT, modulus=2)
        choice = (marks("name"),)
        self.assertEqual(self.by_all(library, (), choice, 3), (2, 3))
        self.assertIsNone(most_hits(library, (), choice, 3, 2))
        self.assertEqual(self.told(library, (), choice, 3, 3), 2)

    def test_drawn_ones(self):
        found = []
        for seed, (library, slots, choice) in enumerate(drawn.cases(0, 120, 4)):
            many = deeds(library, slots)
            if 0 < len(many) <= 9:
                found.append(self.around(library, slots, choice, 3 if len(many) <= 6 else 2))
        self.assertGreater(len(found), 20)
        self.assertGreater(len(set(found)), 2)

    def test_drawn_ones_of_more_deeds(self):
        for seed, (library, slots, choice) in enumerate(drawn.cases(300, 60, 4)):
            last = 0
            for many in range(7):
                hits = self.told(library, slots, choice, many, 400)
                if hits is not None:
                    self.assertGreaterEqual(hits, last)
                    last = hits

    def test_things_that_are_made_and_given(self):
        library = library_with(MAKE, GIVE, READ, BUMP, modulus=2)
        for key, result in itertools.product(("name", "thing", "content"), ("shared", "copied")):
            choice = (marks(key, result, size=2), marks(key, result), marks(key, result, 1, 3), None)
            self.around(library, (0,), choice, 3)

    def test_what_is_no_number_from_0_to_6(self):
        choice = choice_with(COUNTER, f2=marks("name"))
        for many in (-1, 7, True, False, None, "3", (3,), [3], {}, 10 ** 20, -10 ** 20, ""):
            with self.assertRaises(NoNumber, msg=many) as caught:
                most_hits(COUNTER, (0,), choice, many, 60)
            self.assertIs(type(caught.exception), NoNumber)

    def test_the_list_is_new(self):
        choice = choice_with(COUNTER, f2=marks("thing"))
        hits, history = most_hits(COUNTER, (0,), choice, 4, 60)
        history.clear()
        self.assertEqual(self.told(COUNTER, (0,), choice, 4, 60), 2)
