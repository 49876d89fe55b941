import itertools
import unittest

from keptcalls.comparing import compare, shows
from keptcalls.libraries import is_library
from keptcalls.rooms import is_choice, told
from keptcalls.users import deeds
from keptcalls.worlds import renumbered, worlds
from tests import drawn, oracle
from tests.samples import (BOXES, BUMP, COUNTER, EMPTY, FAR, FAR_CHOICE, MAKE, PAIR, READ, WRITE, call, choice_with,
                           library_with, marks, plain)

HELD = marks("thing", clears=((0, 0),))
NEXT = (1, (None,), None, (("add", 0, 1), ("return", 0)))
# Function 0 makes a thing, reads it, writes it and reads it again, all in one call.
AT_ONCE = library_with((0, (0, None), None, (("make", 0), ("call", 1, 1, (0,)), ("add", 1, 2), ("put", 0, 0, 1),
                                            ("call", 1, 1, (0,)), ("return", 1))), READ)


def row_behind(library, slots, history, choice):
    """The row behind a history, made by the functions of worlds."""
    plainly, marked = worlds(library, slots, history, choice)
    return (renumbered(library, slots, plain(library), plainly), renumbered(library, slots, choice, marked))


class CompareTest(unittest.TestCase):
    def compared(self, library, slots, choice, limit):
        """What compare returns, which is also held against the document's words."""
        self.assertEqual((is_library(library), is_choice(library, choice)), (True, True))
        answer = compare(library, slots, choice, limit)
        self.assertIs(type(answer), tuple)
        self.assertEqual(len(answer), 3 if answer[0] == "apart" else 2)
        {"apart": self.check_apart, "safe": self.check_safe, "full": self.check_full}[answer[0]](
            library, slots, choice, limit, *answer[1:])
        self.assertIs(shows(library, slots, choice, limit, answer), True)
        self.assertEqual(compare(library, slots, choice, limit), answer)
        return answer

    def step(self, library, slots, choice, history, deed):
        """Whether a deed behind a history tells the same, and the row behind it."""
        longer = history + [deed]
        same = told(library, slots, longer, plain(library))[0] == told(library, slots, longer, choice)[0]
        return same, row_behind(library, slots, longer, choice)

    def histories(self, library, slots, choice, table):
        """A shortest history to each row of a table, found by what the table says of the numbers of deeds."""
        first = row_behind(library, slots, [], choice)
        found = {first: []}
        layer = [first]
        while layer:
            fresh = []
            for row in layer:
                for deed in deeds(library, slots):
                    same, behind = self.step(library, slots, choice, found[row], deed)
                    if same and behind in table and behind not in found:
                        found[behind] = found[row] + [deed]
                        fresh.append(behind)
            layer = fresh
        return found

    def check_table(self, library, slots, choice, table):
        found = self.histories(library, slots, choice, table)
        self.assertEqual(table, {row: len(history) for row, history in found.items()})
        self.assertEqual({type(depth) for depth in table.values()}, {int})
        return found

    def check_safe(self, library, slots, choice, limit, table):
        self.assertLessEqual(len(table), limit)
        found = self.check_table(library, slots, choice, table)
        for row, history in found.items():
            for deed in deeds(library, slots):
                same, behind = self.step(library, slots, choice, history, deed)
                self.assertIs(same, True)
                self.assertLessEqual(table[behind], table[row] + 1)

    def check_apart(self, library, slots, choice, limit, history, layers):
        self.assertIs(type(history), list)
        self.assertLessEqual(len(layers), limit)
        found = self.check_table(library, slots, choice, layers)
        self.assertEqual(max(layers.values()), len(history) - 1)
        one, other = told(library, slots, history, plain(library))[0], told(library, slots, history, choice)[0]
        self.assertEqual(one[:-1], other[:-1])
        self.assertNotEqual(one[-1], other[-1])
        for row, way in found.items():
            for deed in deeds(library, slots):
                same, behind = self.step(library, slots, choice, way, deed)
                # The rows behind fewer deeds are closed but for the last layer, and nothing ahead of it is apart.
                if layers[row] < len(history) - 1:
                    self.assertIs(same, True)
                    self.assertLessEqual(layers[behind], layers[row] + 1)

    def check_full(self, library, slots, choice, limit, rows):
        self.assertEqual(len(rows), limit + 1)
        first = row_behind(library, slots, [], choice)
        self.assertIsNone(rows[first])
        for row in rows:
            way, at = [], row
            while at != first:
                at, deed = rows[at]
                way.insert(0, deed)
                self.assertLessEqual(len(way), limit)
            if len(way) <= 60:
                self.assertEqual(told(library, slots, way, plain(library))[0], told(library, slots, way, choice)[0])
                self.assertEqual(row_behind(library, slots, way, choice), row)


class TestSafe(CompareTest):
    def test_the_interface(self):
        for one in (compare, shows):
            self.assertEqual(one.__module__, "keptcalls.comparing")

    def test_a_table_of_three_rows(self):
        library = library_with(NEXT, modulus=2)
        start = ((), (), ((),))
        rows = [(start, ((), (), ((((n,), (), ("number", 1 - n)),),))) for n in (0, 1)]
        for key in ("name", "thing", "content"):
            self.assertEqual(self.compared(library, (), (marks(key),), 3), ("safe", {(start, start): 0, rows[0]: 1, rows[1]: 1}))
        both = (start, ((), (), ((((0,), (), ("number", 1)), ((1,), (), ("number", 0))),)))
        table = self.compared(library, (), (marks("name", size=2),), 400)[1]
        self.assertEqual(len(table), 5)
        self.assertEqual((table[rows[0]], table[rows[1]], table[both]), (1, 1, 2))

    def test_a_table_with_things(self):
        library = library_with(MAKE, READ, modulus=2)
        choice = (None, marks("thing", errors=1))
        empty = (((None,), (), ((), ())), ((None,), (), ((), ())))
        made = (((0,), ((0, 0, (0,)),), ((), ())), ((0,), ((0, 0, (0,)),), ((), ())))
        failed = (((None,), (), ((), ())), ((None,), (), ((), (((None,), (), ("error", 0)),))))
        known = (made[0], ((0,), ((0, 0, (0,)),), ((), (((0,), (0,), ("number", 0)),))))
        failed_made = (made[0], ((0,), ((0, 0, (0,)),), ((), (((None,), (), ("error", 0)),))))
        gone = (empty[0], ((None,), ((0, 0, (0,)),), ((), (((0,), (0,), ("number", 0)),))))
        other = (made[0], ((0,), ((0, 0, (0,)), (1, 0, (0,))), ((), (((1,), (1,), ("number", 0)),))))
        self.assertEqual(self.compared(library, (0,), choice, 400), ("safe", {
            empty: 0, made: 1, failed: 1, known: 2, failed_made: 2, gone: 3, other: 3}))

    def test_the_document(self):
        answer = self.compared(COUNTER, (0,), (None, None, ("thing", "shared", 0, 1, ((0, 0),))), 400)
        self.assertEqual((answer[0], len(answer[1])), ("safe", 9))
        held = ("thing", "shared", 0, 1, ())
        answer = self.compared(PAIR, (0,), (None, None, None, held, held), 60)
        self.assertEqual((answer[0], len(answer[1])), ("safe", 6))

    def test_no_deed_at_all(self):
        for library, choice in ((EMPTY, ()), (COUNTER[:3] + ((),), (None, None, HELD))):
            for limit in (1, 400):
                answer = self.compared(library, (), choice, limit)
                self.assertEqual(answer, ("safe", {(((), (), ((),) * len(choice)),) * 2: 0}))

    def test_drops_alone(self):
        for library, choice, slots in ((EMPTY, (), (0, 0)), (COUNTER[:3] + ((),), (None, None, HELD), (0,))):
            start = ((None,) * len(slots), (), ((),) * len(choice))
            self.assertEqual(self.compared(library, slots, choice, 1), ("safe", {(start, start): 0}))

    def test_no_slots(self):
        answer = self.compared(COUNTER, (), (marks("thing"), None, None), 400)
        start = ((), (), ((), (), ()))
        entry = ((), ((0, 0, (0,)),), ((((), (), ("thing", 0)),), (), ()))
        self.assertEqual(answer, ("safe", {(start, start): 0, (start, entry): 1}))

    def test_the_plain_choice(self):
        for library, slots, many in ((COUNTER, (0,), 3), (COUNTER, (0, 0), 9), (EMPTY, (0,), 1), (COUNTER, (), 1)):
            word, table = self.compared(library, slots, plain(library), 400)
            self.assertEqual((word, len(table)), ("safe", many))
            self.assertTrue(all(one == other for one, other in table))
        for library, slots, choice in drawn.cases(0, 60):
            answer = compare(library, slots, plain(library), 60)
            self.assertIn(answer[0], ("safe", "full"))
            self.assertTrue(all(one == other for one, other in answer[1]))

    def test_rows_are_renumbered_but_with_the_key_name(self):
        library = library_with(MAKE, WRITE, modulus=2)
        for key in ("name", "thing", "content"):
            rows = list(self.compared(library, (0, 0), (None, marks(key, errors=1)), 400)[-1])
            # With "name" the marked world has name 1 alone where slot 0 was dropped, the plain one, renumbered, name 0.
            self.assertIn(((None, 0), ((0, 0, (0,)),), ((), ())), [row[0] for row in rows])
            self.assertIs(((None, 1), ((1, 0, (0,)),), ((), ())) in [row[1] for row in rows], key == "name")
            for world in [row[0] for row in rows] + [row[1] for row in rows if key != "name"]:
                self.assertEqual([thing[0] for thing in world[1]], list(range(len(world[1]))))


class TestApart(CompareTest):
    def test_a_history_of_one_deed(self):
        for limit in (1, 2, 400):
            answer = self.compared(AT_ONCE, (), (None, marks("thing")), limit)
            start = ((), (), ((), ()))
            self.assertEqual(answer, ("apart", [call(0)], {(start, start): 0}))

    def test_a_history_of_several_deeds(self):
        answer = self.compared(COUNTER, (0,), (None, None, marks("thing")), 400)
        self.assertEqual(answer[1], [call(0, k=0), call(2, 0), call(1, 0), call(2, 0)])
        answer = self.compared(COUNTER, (0,), (None, None, marks("content", clears=())), 400)
        self.assertEqual(answer[0], "safe")
        answer = self.compared(COUNTER, (0,), (marks("thing"), None, None), 400)
        self.assertEqual(answer[1], [call(0, k=0), call(1, 0), call(0, k=0), call(2, 0)])

    def test_the_document(self):
        answer = self.compared(COUNTER, (0,), (None, None, ("name", "shared", 0, 1, ((0, 0),))), 400)
        self.assertEqual((answer[0], len(answer[1])), ("apart", 6))

    def test_errors_apart(self):
        fails = (1, (0, None), None, (("get", 1, 0, 0), ("if", 1, 3), ("return", 1), ("fail", 4)))
        library = library_with(MAKE, BUMP, fails, modulus=2)
        for errors in (0, 1):
            answer = self.compared(library, (0,), (None, None, marks("thing", errors=errors, size=3)), 400)
            self.assertEqual((answer[0], len(answer[1])), ("apart", 4))
        answer = self.compared(library, (0,), (None, None, marks("thing", errors=1, clears=((0, 0),))), 400)
        self.assertEqual(answer[0], "safe")

    def test_other_errors_are_apart(self):
        # Function 1 fails with 1 or 2, as its thing says.
        fails = (1, (0, None), None, (("get", 1, 0, 0), ("if", 1, 3), ("fail", 1), ("fail", 2)))
        library = library_with(MAKE, fails, BUMP, modulus=2)
        history = [call(0, k=0), call(1, 0), call(2, 0), call(1, 0)]
        answer = self.compared(library, (0,), (None, marks("name", errors=1), None), 400)
        self.assertEqual((answer[0], len(answer[1])), ("apart", 4))
        self.assertEqual(told(library, (0,), history, (None, marks("name", errors=1), None))[0][-1], ("error", 1))
        self.assertEqual(told(library, (0,), history, plain(library))[0][-1], ("error", 2))

    def test_a_history_of_more_than_sixty_deeds(self):
        for limit in (194, 400):
            word, history, layers = compare(FAR, (1,), FAR_CHOICE, limit)
            self.assertEqual((word, len(history), len(layers)), ("apart", 65, 194))
            self.assertEqual(history, [call(0, k=0)] + [call(1, 0)] * 64)
            self.assertIs(shows(FAR, (1,), FAR_CHOICE, limit, (word, history, layers)), True)
        self.assertEqual(compare(FAR, (1,), FAR_CHOICE, 193)[0], "full")
        one = oracle.teller_behind(FAR, (1,), history, plain(FAR))[1]
        other = oracle.teller_behind(FAR, (1,), history, FAR_CHOICE)[1]
        self.assertEqual((one[:-1], one[-1], other[-1]), (other[:-1], 0, 1))

    def test_no_shorter_history_is_apart(self):
        for library, slots, choice, many in ((COUNTER, (0,), (None, None, marks("thing")), 4),
                                             (COUNTER, (0,), (marks("content"), None, None), 4),
                                             (COUNTER, (0,), (None, marks("thing"), None), 4)):
            self.assertEqual(len(self.compared(library, slots, choice, 400)[1]), many)
            for history in itertools.product(deeds(library, slots), repeat=many - 1):
                history = list(history)
                self.assertEqual(told(library, slots, history, choice)[0], told(library, slots, history, plain(library))[0])


class TestLimits(CompareTest):
    def test_at_under_and_above_the_rows_of_a_table(self):
        for library, slots, choice in ((COUNTER, (0,), (None, None, HELD)), (COUNTER, (0,), plain(COUNTER)),
                                       (PAIR, (0,), plain(PAIR)), (library_with(NEXT), (), (marks("thing", size=2),))):
            many = len(compare(library, slots, choice, 400)[1])
            self.assertGreater(many, 2)
            for limit in (many - 1, many, many + 1, 1, 400):
                answer = self.compared(library, slots, choice, limit)
                self.assertEqual(answer[0], "full" if limit < many else "safe")

    def test_at_under_and_above_the_rows_of_the_layers(self):
        for library, slots, choice in ((COUNTER, (0,), (None, None, marks("thing"))), (AT_ONCE, (), (None, marks("thing"))),
                                       (COUNTER, (0, 0), (marks("name"), None, None))):
            many = len(compare(library, slots, choice, 400)[2])
            for limit in (many - 1, many, many + 1):
                if limit > 0:
                    answer = self.compared(library, slots, choice, limit)
                    self.assertEqual(answer[0], "full" if limit < many else "apart")

    def test_a_row_apart_counts_even_if_the_next_layer_is_too_large(self):
        """A layer is looked at to its end, though the first rows of it lead to more rows than the limit lets."""
        choice = (None, marks("thing"), None)
        word, history, layers = compare(COUNTER, (0, 0), choice, 400)
        self.assertEqual(word, "apart")
        # Behind the last layer there are many more rows.
        last = [row for row in layers if layers[row] == len(history) - 1]
        self.assertGreater(len(last), 3)
        self.assertEqual(self.compared(COUNTER, (0, 0), choice, len(layers))[0], "apart")
        self.assertEqual(self.compared(COUNTER, (0, 0), choice, len(layers) - 1)[0], "full")

    def test_limit_1(self):
        answer = self.compared(COUNTER, (0,), (None, None, HELD), 1)
        self.assertEqual((answer[0], len(answer[1])), ("full", 2))

    def test_limit_400(self):
        library = library_with(MAKE, WRITE, READ, modulus=4)
        answer = self.compared(library, (0, 0), (None, None, marks("thing", size=3, clears=((0, 0),))), 400)
        self.assertEqual((answer[0], len(answer[1])), ("full", 401))

    def test_full_though_a_longer_history_is_apart(self):
        answer = self.compared(COUNTER, (0,), (None, None, marks("thing")), 2)
        self.assertEqual(answer[0], "full")


class TestDrawn(CompareTest):
    def test_against_the_oracle(self):
        words = {"apart": 0, "safe": 0, "full": 0}
        for library, slots, choice in drawn.cases(1000, 300):
            answer = compare(library, slots, choice, 40)
            words[answer[0]] += 1
            wanted = oracle.layers_of(library, slots, choice, deeds(library, slots), 40)
            if wanted is None:
                self.assertEqual((answer[0], len(answer[1])), ("full", 41))
            elif wanted[1]:
                self.assertEqual((answer[0], answer[2]), ("apart", wanted[0]))
            else:
                self.assertEqual(answer, ("safe", wanted[0]))
            self.assertIs(shows(library, slots, choice, 40, answer), True)
        self.assertGreater(min(words.values()), 10)

    def test_step_by_step(self):
        for library, slots, choice in drawn.cases(2000, 60):
            self.compared(library, slots, choice, 12)

    def test_a_choice_of_larger_libraries(self):
        for seed in range(4):
            settings = drawn.choice_of(seed, BOXES, 3)
            self.compared(BOXES, (1, 0), settings, 30)
        self.compared(BOXES, (1, 0), choice_with(BOXES, f2=HELD), 60)
