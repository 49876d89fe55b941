import copy
import unittest

from keptcalls.comparing import compare, shows
from keptcalls.users import deeds
from tests import drawn
from tests.samples import (COUNTER, EMPTY, FAR, FAR_CHOICE, MAKE, READ, WRITE, at_path, call, library_with, marks, plain,
                           positions, replaced)

HELD = marks("thing", clears=((0, 0),))
STALE = marks("thing")
THINGS = [None, True, False, 0, 1, 10 ** 20, "", "safe", "apart", "full", (), [], {}, ("safe",), ("apart",), ("full",),
          (None,) * 2, (None,) * 3, ("safe", {}), ("full", {}), ("apart", [], {}), ("safe", None), ("full", None),
          ("apart", None, None), ["safe", {}], {"safe": {}}, ("Safe", {}), (True, False), ((("safe",),),), (0,) * 2000]
NO_ROWS = [None, 0, True, "", (), (None,), (None, None), ((), ()), (((), (), ()), ((), (), ())), 10 ** 20, "row", (0,) * 2000,
           ((((((((((),),),),),),),),),)]


class ShowsTest(unittest.TestCase):
    library, slots, choice, limit = COUNTER, (0,), (None, None, HELD), 400

    def holds(self, *things, limit=None):
        for thing in things:
            self.assertIs(shows(self.library, self.slots, self.choice, limit or self.limit, thing), True, thing)

    def fails(self, *things, limit=None):
        for thing in things:
            self.assertIs(shows(self.library, self.slots, self.choice, limit or self.limit, thing), False, thing)

    def answer(self, limit=None):
        return compare(self.library, self.slots, self.choice, limit or self.limit)

    def refuses_forms(self, right):
        """What is told of the form of an answer, whatever its word is."""
        self.holds(right, copy.deepcopy(right))
        self.fails(*THINGS)
        self.fails(list(right), right[:-1], right[1:], right + (None,), right + ({},), right[::-1], {right[0]: right[-1]})
        for word in ("safe", "apart", "full", "", None, 0, True, ["safe"], (right[0],)):
            if word != right[0]:
                self.fails((word,) + right[1:])
        for at in range(1, len(right)):
            for other in THINGS + [list(right[at]), tuple(right[at]), [right[at]], (right[at],)]:
                if not (type(other) is type(right[at]) and other == right[at]):
                    self.fails(right[:at] + (other,) + right[at + 1:])

    def refuses_tables(self, put, table):
        """What is told of a table, put making an answer of one."""
        self.holds(put(dict(reversed(list(table.items())))))
        for row, depth in table.items():
            for other in (depth - 1, depth + 1, None, str(depth), (depth,), [depth], {}, bool(depth), -1, 10 ** 20):
                self.fails(put({**table, row: other}))
            less = {one: table[one] for one in table if one != row}
            self.fails(put(less))
            for bad in NO_ROWS + [row[::-1] if row[0] != row[1] else (row,), row + (row[0],), row[:1]]:
                self.fails(put({**table, bad: depth}), put({**less, bad: depth}))
        self.fails(put({}), put({row: 0 for row in table}), put({depth: row for row, depth in table.items()}))

    def refuses_rows_changed(self, put, table):
        """Another row in the place of one: a boolean or another number for an integer at any place in it."""
        for row, depth in table.items():
            less = {one: table[one] for one in table if one != row}
            for path in positions(row):
                here = at_path(row, path)
                if isinstance(here, int):
                    others = [here + 1, -1] + ([bool(here)] if here in (0, 1) else [])
                else:
                    others = [7, "other", (here,), True]
                for other in others:
                    changed = replaced(row, path, other)
                    if changed not in less:
                        self.fails(put({**less, changed: depth}))


class TestSafe(ShowsTest):
    def test_the_interface(self):
        answer = self.answer()
        self.assertEqual(answer[0], "safe")
        self.assertIs(shows(library=COUNTER, slots=(0,), choice=self.choice, limit=400, thing=answer), True)
        self.assertIs(shows(thing=answer, limit=8, choice=self.choice, slots=(0,), library=COUNTER), False)

    def test_forms(self):
        self.refuses_forms(self.answer())

    def test_tables(self):
        answer = self.answer()
        self.refuses_tables(lambda table: ("safe", table), answer[1])
        self.refuses_rows_changed(lambda table: ("safe", table), answer[1])

    def test_limits(self):
        answer = self.answer()
        many = len(answer[1])
        self.holds(answer, limit=many)
        self.holds(answer, limit=many + 1)
        self.fails(answer, limit=many - 1)
        self.fails(answer, limit=1)

    def test_other_questions(self):
        answer = self.answer()
        self.assertIs(shows(COUNTER, (0,), plain(COUNTER), 400, answer), False)
        self.assertIs(shows(COUNTER, (0, 0), self.choice, 400, answer), False)
        self.assertIs(shows(COUNTER, (0,), (None, None, STALE), 400, answer), False)
        self.assertIs(shows(COUNTER, (0,), (None, None, marks("thing", size=2, clears=((0, 0),))), 400, answer), False)

    def test_one_row(self):
        answer = compare(EMPTY, (), (), 1)
        row = list(answer[1])[0]
        self.assertIs(shows(EMPTY, (), (), 1, answer), True)
        for other in (False, 1, None, "0", True):
            self.assertIs(shows(EMPTY, (), (), 1, ("safe", {row: other})), False)


class TestApart(ShowsTest):
    choice = (None, None, STALE)
    right = [call(0, k=0), call(2, 0), call(1, 0), call(2, 0)]

    def test_forms(self):
        self.assertEqual(self.answer()[:2], ("apart", self.right))
        self.refuses_forms(self.answer())

    def test_layers(self):
        word, history, layers = self.answer()
        self.refuses_tables(lambda table: (word, history, table), layers)
        self.refuses_rows_changed(lambda table: (word, history, table), layers)

    def test_other_shortest_histories(self):
        word, history, layers = self.answer()
        found = []
        for a in deeds(COUNTER, (0,)):
            for b in deeds(COUNTER, (0,)):
                for c in deeds(COUNTER, (0,)):
                    for d in deeds(COUNTER, (0,)):
                        if shows(COUNTER, (0,), self.choice, 400, (word, [a, b, c, d], layers)):
                            found.append([a, b, c, d])
        self.assertEqual(found, [self.right])
        # With two slots either one will do.
        word, history, layers = compare(COUNTER, (0, 0), self.choice, 400)
        for k in (0, 1):
            some = [call(0, k=k), call(2, k), call(1, k), call(2, k)]
            self.assertIs(shows(COUNTER, (0, 0), self.choice, 400, (word, some, layers)), True)
        some = [call(0, k=0), call(2, 0), call(1, 0), call(2, 1)]
        self.assertIs(shows(COUNTER, (0, 0), self.choice, 400, (word, some, layers)), False)

    def test_histories_that_are_none_such(self):
        word, history, layers = self.answer()
        for other in ([], history[:-1], history[1:], history + [("drop", 0)], history + [call(2, 0)], [("drop", 0)] + history,
                      history[:-1] + [("drop", 0)], history[:-1] + [call(1, 0)], [call(2, 0)] * 4, history[::-1],
                      history[:2] + [("drop", 0)] + history[3:], [call(0, k=0), call(1, 0), call(2, 0), call(2, 0)],
                      history[:2] + [("drop", 0), call(0, k=0), call(2, 0)], history * 2):
            self.fails((word, other, layers))

    def test_deeds_that_are_none(self):
        word, history, layers = self.answer()
        for at in range(4):
            for bad in (None, 0, (), [], "drop", ("drop",), ("drop", 1), ("drop", False), ("drop", 0, 0), call(3), call(0, 0),
                        call(2), call(2, 1), call(2, False), call(2, None), ("call", 2, [0], None), ("call", 2, (0,)),
                        ("call", 2, (0,), 0), ("call", True, (0,), None), ["call", 2, (0,), None], {"call": 2}):
                self.fails((word, history[:at] + [bad] + history[at + 1:], layers))
            self.fails((word, history[:at] + [list(history[at])] + history[at + 1:], layers))
            for path in positions(history[at]):
                here = at_path(history[at], path)
                if isinstance(here, int) and here in (0, 1):
                    self.fails((word, history[:at] + [replaced(history[at], path, bool(here))] + history[at + 1:], layers))
        self.fails((word, tuple(history), layers), (word, {deed: 0 for deed in history}, layers), (word, "history", layers))

    def test_a_history_that_tells_otherwise_earlier(self):
        library = library_with(MAKE, READ, WRITE, modulus=2)
        choice = (marks("thing"), None, None)
        word, history, layers = compare(library, (0,), choice, 400)
        self.assertEqual(word, "apart")
        self.assertIs(shows(library, (0,), choice, 400, (word, history, layers)), True)
        for more in range(1, 3):
            longer = history + [history[-1]] * more
            self.assertIs(shows(library, (0,), choice, 400, (word, longer, layers)), False)

    def test_limits(self):
        answer = self.answer()
        many = len(answer[2])
        self.holds(answer, limit=many)
        self.holds(answer, limit=many + 1)
        self.fails(answer, limit=many - 1)

    def test_more_than_sixty_deeds(self):
        word, history, layers = compare(FAR, (1,), FAR_CHOICE, 400)
        self.assertEqual(len(history), 65)
        for some, held in ((history, True), (history[1:], False), (history + history[-1:], False), (history[:60], False),
                           (history[:-1] + [("drop", 0)], False)):
            self.assertIs(shows(FAR, (1,), FAR_CHOICE, 400, (word, some, layers)), held)

    def test_the_table_of_a_safe_choice(self):
        word, history, layers = self.answer()
        self.fails(("safe", layers), ("full", layers), ("safe", history), ("apart", layers, history))


class TestFull(ShowsTest):
    choice = (None, None, HELD)
    limit = 6

    def test_forms(self):
        self.assertEqual(self.answer()[0], "full")
        self.refuses_forms(self.answer())

    def test_rows_left_out_and_put_in(self):
        word, rows = self.answer()
        table = compare(self.library, self.slots, self.choice, 400)[1]
        self.holds((word, dict(reversed(list(rows.items())))))
        for row, step in rows.items():
            less = {one: rows[one] for one in rows if one != row}
            self.fails((word, less))
            for bad in NO_ROWS + [row + (row[0],), row[:1], (row,)]:
                self.fails((word, {**rows, bad: step}), (word, {**less, bad: step}))
        for row in table:
            if row not in rows:
                for ahead in rows:
                    for deed in deeds(self.library, self.slots):
                        self.fails((word, {**rows, row: (ahead, deed)}))
        self.refuses_rows_changed(lambda some: (word, some), rows)

    def test_limits(self):
        for limit in range(1, 9):
            answer = self.answer(limit=limit)
            for other in range(1, 11):
                (self.holds if other == limit else self.fails)(answer, limit=other)

    def test_other_rows_and_other_ways(self):
        """Each dict of limit + 1 rows, with whatever ways lead to them, may be returned; others may not."""
        edges = self.edges()
        first = list(edges)[0]
        every = list(edges)
        self.assertEqual(len(every), 9)
        for left_out in [(a, b) for a in every for b in every if every.index(a) < every.index(b)]:
            rows = {row: None for row in every if row not in left_out}
            found = {first: None}
            grown = True
            while grown:
                grown = False
                for row in list(found):
                    for deed, behind in edges[row][::-1]:
                        if behind in rows and behind not in found:
                            found[behind] = (row, deed)
                            grown = True
            if first in rows and len(found) == 7:
                self.holds(("full", found))
            else:
                self.fails(("full", {**rows, **{row: step for row, step in found.items() if row in rows}}))

    def edges(self):
        """From each row of the whole table each deed and the row behind it, by the program's own answers."""
        from keptcalls.comparing import Rows
        made = Rows(self.library, self.slots, self.choice)
        table = compare(self.library, self.slots, self.choice, 400)[1]
        return {row: [(deed, made.behind(row, deed)) for deed in deeds(self.library, self.slots)] for row in table}

    def test_each_step_from_each_row(self):
        word, rows = self.answer()
        edges = self.edges()
        for row in rows:
            for ahead in rows:
                for deed, behind in edges[ahead]:
                    changed = {**rows, row: (ahead, deed)}
                    right = behind == row and self.comes_to_the_first(changed) and rows[row] is not None
                    (self.holds if right else self.fails)((word, changed))

    def comes_to_the_first(self, rows):
        for row in rows:
            for _ in range(len(rows)):
                if rows[row] is None:
                    break
                row = rows[row][0]
            if rows[row] is not None:
                return False
        return True

    def test_ways_to_the_row_itself_and_in_a_circle(self):
        word, rows = self.answer()
        edges = self.edges()
        selves = [(row, deed) for row in rows for deed, behind in edges[row] if behind == row]
        self.assertTrue(selves)
        for row, deed in selves:
            self.fails((word, {**rows, row: (row, deed)}))
        circles = 0
        for one in rows:
            for deed, other in edges[one]:
                for back, again in edges[other]:
                    if again == one != other and other in rows:
                        circles += 1
                        self.fails((word, {**rows, one: (other, back), other: (one, deed)}))
        self.assertGreater(circles, 0)

    def test_the_first_row(self):
        word, rows = self.answer()
        first = [row for row in rows if rows[row] is None][0]
        edges = self.edges()
        for row in rows:
            self.fails((word, {**rows, row: None}) if row != first else (word, {one: None for one in rows}))
        for ahead in rows:
            for deed, behind in edges[ahead]:
                self.fails((word, {**rows, first: (ahead, deed)}))
        others = [row for row in edges if row not in rows]
        less = {row: rows[row] for row in rows if row != first}
        for row in others:
            for ahead in less:
                for deed, behind in edges[ahead]:
                    if behind == row:
                        self.fails((word, {**less, row: (ahead, deed)}))

    def test_rows_ahead_that_are_not_in_the_dict(self):
        word, rows = self.answer()
        edges = self.edges()
        others = [row for row in edges if row not in rows]
        for row in rows:
            for ahead in others:
                for deed, behind in edges[ahead]:
                    if behind == row:
                        self.fails((word, {**rows, row: (ahead, deed)}))

    def test_steps_of_other_forms(self):
        word, rows = self.answer()
        for row, step in rows.items():
            if step is None:
                for other in (0, False, (), "", [], (None, None), {}):
                    self.fails((word, {**rows, row: other}))
                continue
            ahead, deed = step
            others = [(), (ahead,), (deed,), (deed, ahead), list(step), (ahead, deed, deed), (ahead, None), (None, deed), ahead,
                      deed, "step", 0, True, {ahead: deed}, (ahead, list(deed)), (list(ahead), deed), ([], deed), ({}, deed),
                      (ahead, [deed]), ((ahead,), deed)]
            others += [(ahead, replaced(deed, path, bad)) for path in positions(deed)[1:] for bad in (True, False, None, [], 9)
                       if not (bad is None and at_path(deed, path) is None)]
            others += [(replaced(ahead, path, bad), deed) for path in positions(ahead) for bad in (True, False, "x", [], 9)]
            for other in others:
                self.fails((word, {**rows, row: other}))

    def test_deeds_that_tell_otherwise(self):
        # Behind the first three deeds the last one is told otherwise, though it leads to rows of the right form.
        library, slots, choice = COUNTER, (0,), (None, None, STALE)
        for limit in range(1, 6):
            answer = compare(library, slots, choice, limit)
            if answer[0] == "full":
                self.assertIs(shows(library, slots, choice, limit, answer), True)
        word, history, layers = compare(library, slots, choice, 400)
        limit = len(layers) - 1
        word, rows = compare(library, slots, choice, limit)
        self.assertEqual(word, "full")
        self.assertIs(shows(library, slots, choice, limit, (word, rows)), True)
        from keptcalls.worlds import renumbered, worlds
        plainly, marked = worlds(library, slots, history, choice)
        behind = (renumbered(library, slots, plain(library), plainly), renumbered(library, slots, choice, marked))
        plainly, marked = worlds(library, slots, history[:-1], choice)
        ahead = (renumbered(library, slots, plain(library), plainly), renumbered(library, slots, choice, marked))
        found = 0
        for row in rows:
            less = {one: rows[one] for one in rows if one != row}
            for step in ((ahead, history[-1]), (row, history[-1])):
                found += 1
                self.assertIs(shows(library, slots, choice, limit, (word, {**less, behind: step})), False)
                self.assertIs(shows(library, slots, choice, limit, (word, {**rows, row: step})), False)
        self.assertGreater(found, 4)

    def test_the_words_of_others(self):
        word, rows = self.answer()
        self.fails(("safe", {row: 0 for row in rows}), ("safe", rows), ("apart", [], rows),
                   ("full", {row: 0 for row in rows}), ("full", compare(self.library, self.slots, self.choice, 400)[1]))


class TestDrawn(unittest.TestCase):
    def test_each_answer_and_what_is_left_of_it(self):
        for library, slots, choice in drawn.cases(4000, 60):
            for limit in (3, 15):
                answer = compare(library, slots, choice, limit)
                self.assertIs(shows(library, slots, choice, limit, answer), True)
                table = answer[-1]
                for row in list(table)[:5]:
                    less = {one: table[one] for one in table if one != row}
                    self.assertIs(shows(library, slots, choice, limit, answer[:-1] + (less,)), False)
                self.assertIs(shows(library, slots, choice, limit + 1, answer), answer[0] != "full")

    def test_answers_of_other_choices(self):
        cases = drawn.cases(4100, 40)
        for library, slots, choice in cases:
            answers = [compare(library, slots, some, 10) for some in (choice, plain(library))]
            for some, own in ((choice, 0), (plain(library), 1)):
                for at, answer in enumerate(answers):
                    if at != own:
                        self.assertIs(shows(library, slots, some, 10, answer), answer == answers[own])
