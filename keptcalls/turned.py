"""What becomes of a choice with each change of one thing alone, and the most hits that a history has."""

from keptcalls.comparing import check_limit, compare
from keptcalls.doing import User
from keptcalls.errors import NoNumber
from keptcalls.libraries import is_integer
from keptcalls.rooms import KEYS, LARGEST_SIZE, RESULTS, all_fields, check_choice
from keptcalls.users import check_slots, deeds

MOST_HITS_DEEDS = 6


def neighbours(library, slots, choice, limit):
    """For each change of one thing alone (f, what, word, history), as [14] says."""
    check_slots(library, slots)
    check_choice(library, choice)
    check_limit(limit)
    found = []
    for f, settings in enumerate(choice):
        if settings is not None:
            for what, other in _changes(library, settings):
                answer = compare(library, slots, choice[:f] + (other,) + choice[f + 1:], limit)
                found.append((f, what, answer[0], answer[1] if answer[0] == "apart" else None))
    return found


def most_hits(library, slots, choice, many, limit):
    """(hits, history) with the greatest number of hits that a history of many deeds has, or None, as [15] says."""
    check_slots(library, slots)
    check_choice(library, choice)
    if not is_integer(many, 0, MOST_HITS_DEEDS):
        raise NoNumber("this is no number of deeds from 0 to 6")
    check_limit(limit)
    walk = Walk(library, slots, choice)
    # For each world behind so many deeds the most hits on a way to it, and that way: what follows depends on it alone.
    best_ways = {walk.first: (0, [])}
    known = {walk.first: True}
    for _ in range(many):
        best_ways = _one_deed_more(walk, best_ways, known, limit)
        if len(known) > limit:
            return None
    if not best_ways:
        return None
    most = max([hits for hits, way in best_ways.values()])
    return [(hits, way) for hits, way in best_ways.values() if hits == most][0]


class Walk:
    """The worlds of a library with a choice, as they are, and the deeds that lead from one to another."""

    def __init__(self, library, slots, choice):
        self.user = User(library, slots, choice)
        self.every = deeds(library, slots)
        self.first = self.user.world()
        self.known_steps = {}

    def steps(self, world):
        """For each deed (deed, its hits, the world behind it)."""
        if world not in self.known_steps:
            self.known_steps[world] = [self._step(world, deed) for deed in self.every]
        return self.known_steps[world]

    def _step(self, world, deed):
        before = sum(self.user.hit_counts)
        self.user.stand(world)
        self.user.act(deed)
        return (deed, sum(self.user.hit_counts) - before, self.user.world())


def _one_deed_more(walk, best_ways, known, limit):
    """The best ways of one deed more; known gets their worlds, until there are more than the limit."""
    longer = {}
    for world, (hits, way) in best_ways.items():
        for deed, more, behind in walk.steps(world):
            known[behind] = True
            if len(known) > limit:
                return longer
            if behind not in longer or longer[behind][0] < hits + more:
                longer[behind] = (hits + more, way + [deed])
    return longer


def _changes(library, settings):
    """All changes of one thing alone, each with the settings that it leads to, in the order of [14]."""
    key, result, errors, size, clears = settings
    found = [(("plain",), None)]
    for other in sorted(KEYS):
        if other != key:
            found.append((("key", other), (other, result, errors, size, clears)))
    for other in RESULTS:
        if other != result:
            found.append((("result", other), (key, other, errors, size, clears)))
    found.append((("errors", 1 - errors), (key, result, 1 - errors, size, clears)))
    for other in (size - 1, size + 1):
        if 1 <= other <= LARGEST_SIZE:
            found.append((("size", other), (key, result, errors, other, clears)))
    fields = all_fields(library[1])
    for turned in fields:
        others = tuple([one for one in fields if (one in clears) != (one == turned)])
        found.append((("clears", turned), (key, result, errors, size, others)))
    return found
