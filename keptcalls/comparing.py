"""Whether a choice is safe: all that it tells is held against what the plain library tells."""

from keptcalls.doing import User
from keptcalls.errors import NoLimit
from keptcalls.libraries import is_integer, is_tuple
from keptcalls.rooms import check_choice
from keptcalls.users import check_slots, deeds, is_deed
from keptcalls.worlds import in_order, is_world, plain_choice

GREATEST_LIMIT = 400


class Rows:
    """The rows of a library, slots and a choice."""

    def __init__(self, library, slots, choice):
        self.library = library
        self.slots = slots
        self.marks = choice
        self.unmarked = plain_choice(library)
        self.plain_user = User(library, slots, self.unmarked)
        self.marked_user = User(library, slots, choice)
        self.first = (self.plain_user.world(), self.marked_user.world())
        self.plain_steps = {}

    def behind(self, row, deed):
        """The row that a deed leads to from a row, or None if it does not tell the same in both worlds."""
        plain, marked = row
        # Many rows have one plain world, so what a deed does in it is kept.
        if (plain, deed) not in self.plain_steps:
            self.plain_steps[plain, deed] = self._plain_step(plain, deed)
        telling, plain = self.plain_steps[plain, deed]
        self.marked_user.stand(marked)
        if self.marked_user.act(deed) != telling:
            return None
        return (plain, in_order(self.library, self.marks, self.marked_user.world()))

    def _plain_step(self, world, deed):
        self.plain_user.stand(world)
        telling = self.plain_user.act(deed)
        return (telling, in_order(self.library, self.unmarked, self.plain_user.world()))

    def is_row(self, thing):
        """Whether a thing has the form of a row, whether or not a history leads to it."""
        if not (is_tuple(thing, 2, 2) and is_world(self.library, self.slots, self.unmarked, thing[0])):
            return False
        return is_world(self.library, self.slots, self.marks, thing[1])


def compare(library, slots, choice, limit):
    """("apart", history, layers), ("safe", table) or ("full", rows), as [9] says."""
    return _compared(_checked_rows(library, slots, choice, limit), limit)


def shows(library, slots, choice, limit, thing):
    """Whether a thing may be returned by compare."""
    rows = _checked_rows(library, slots, choice, limit)
    right = _compared(rows, limit)
    if not (is_tuple(thing, len(right), len(right)) and thing[0] == right[0]):
        return False
    if right[0] == "safe":
        return _is_table(rows, thing[1], right[1])
    if right[0] == "apart":
        return _is_apart(rows, thing[1], len(right[1])) and _is_table(rows, thing[2], right[2])
    return _is_full(rows, thing[1], limit)


def check_limit(limit):
    """Raise NoLimit for what is no limit."""
    if not is_integer(limit, 1, GREATEST_LIMIT):
        raise NoLimit("this is no limit")


def _checked_rows(library, slots, choice, limit):
    check_slots(library, slots)
    check_choice(library, choice)
    check_limit(limit)
    return Rows(library, slots, choice)


def _compared(rows, limit):
    every = deeds(rows.library, rows.slots)
    ahead = {rows.first: None}
    layers = [[rows.first]]
    while layers[-1]:
        fresh = []
        # A whole layer is looked at before it is said that there are too many rows: those behind it count only then.
        for row in layers[-1]:
            for deed in every:
                behind = rows.behind(row, deed)
                if behind is None:
                    return ("apart", _way_to(ahead, row) + [deed], _depths(layers))
                if len(ahead) <= limit and behind not in ahead:
                    ahead[behind] = (row, deed)
                    fresh.append(behind)
        if len(ahead) > limit:
            return ("full", ahead)
        layers.append(fresh)
    return ("safe", _depths(layers))


def _way_to(ahead, row):
    """The deeds that lead to a row from the row of no deed."""
    way = []
    while ahead[row] is not None:
        row, deed = ahead[row]
        way.append(deed)
    return way[::-1]


def _depths(layers):
    return {row: depth for depth, layer in enumerate(layers) for row in layer}


def _is_table(rows, thing, table):
    """Whether a thing is a table, of just its form: to Python's == True is as good as 1."""
    if not isinstance(thing, dict):
        return False
    return all([rows.is_row(row) and is_integer(thing[row], 0, len(table)) for row in thing]) and thing == table


def _is_apart(rows, thing, many):
    """Whether a thing is a history apart, many being the number of deeds of a shortest one."""
    if not (isinstance(thing, list) and len(thing) == many):
        return False
    if not all([is_deed(rows.library, rows.slots, deed) for deed in thing]):
        return False
    row = rows.first
    # So many deeds are a shortest history's, so none but the last one can tell otherwise.
    for deed in thing[:-1]:
        row = rows.behind(row, deed)
    return rows.behind(row, thing[-1]) is None


def _is_full(rows, thing, limit):
    """Whether a thing is a dict of limit + 1 rows, each with the one ahead of it."""
    if not (isinstance(thing, dict) and len(thing) == limit + 1):
        return False
    if not all([rows.is_row(row) and _is_step(rows, thing[row]) for row in thing]):
        return False
    if rows.first not in thing or thing[rows.first] is not None:
        return False
    steps = {}
    for row, step in thing.items():
        if step is not None:
            steps.setdefault(step[0], []).append((row, step[1]))
    return _many_behind(rows, steps) == limit + 1


def _is_step(rows, thing):
    if thing is None:
        return True
    return is_tuple(thing, 2, 2) and rows.is_row(thing[0]) and is_deed(rows.library, rows.slots, thing[1])


def _many_behind(rows, steps):
    """How many rows one comes to from the row of no deed along steps, and by what these deeds do."""
    reached = [rows.first]
    at = 0
    while at < len(reached):
        row = reached[at]
        at += 1
        reached.extend([behind for behind, deed in steps.get(row, []) if rows.behind(row, deed) == behind])
    return len(reached)
