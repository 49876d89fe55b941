"""What the text of a library tells of its functions, and which choices pass by that alone."""

from keptcalls.libraries import check_library, parameter_sorts
from keptcalls.rooms import check_choice

# What a variable may have: (made things, given things).
NEITHER = (False, False)
MADE = (True, False)
GIVEN = (False, True)
WORDS = {(False, False): "none", (True, False): "made", (False, True): "given", (True, True): "both"}


class Text:
    """What the text of a function tells, as far as its instructions have been read."""

    def __init__(self, function, later):
        parameters, sorts, result, body = function
        self.sorts = sorts
        self.later = later
        self.calm = True
        self.blind = True
        self.reads = {}
        self.result = NEITHER
        first = [GIVEN if sort is not None else NEITHER for sort in sorts[:parameters]]
        # For each place that a way leads to what the variables may have there.
        self.ways = {0: tuple(first) + (NEITHER,) * (len(sorts) - parameters)}

    def read(self, place, instruction):
        """Read the instruction at a place; all places ahead of it have been read."""
        if place not in self.ways:
            return
        has = self.ways[place]
        word = instruction[0]
        if word == "return":
            self.result = _together([self.result, has[instruction[1]]])
        elif word == "jump":
            self._lead(instruction[1], has)
        elif word == "if":
            self._lead(instruction[2], has)
            self._lead(place + 1, has)
        elif word != "fail":
            self._lead(place + 1, self._behind(has, instruction))

    def _lead(self, place, has):
        """A way leads to a place, where the variables may have this, too."""
        known = self.ways.get(place, has)
        self.ways[place] = tuple([_together([one, other]) for one, other in zip(known, has)])

    def _behind(self, has, instruction):
        """What the variables may have behind an instruction that goes on at the next place."""
        word = instruction[0]
        if word == "make":
            return _with(has, instruction[1], MADE)
        if word == "copy":
            return _with(has, instruction[1], has[instruction[2]])
        if word == "get":
            return self._behind_get(has, instruction)
        if word == "call":
            return self._behind_call(has, instruction)
        if word == "put":
            word, t, i, u = instruction
            self.calm = self.calm and not _may_be_given(has[t]) and not _may_be_given(has[u])
        if word == "same":
            self.blind = False
        return has

    def _behind_get(self, has, instruction):
        word, s, t, i = instruction
        if _may_be_given(has[t]):
            self.reads[(self.sorts[t], i)] = True
        return has if self.sorts[s] is None else _with(has, s, has[t])

    def _behind_call(self, has, instruction):
        word, s, g, args = instruction
        calm, result, more, blind = self.later[g]
        self.calm = self.calm and calm
        self.blind = self.blind and blind
        for one in more:
            self.reads[one] = True
        parts = [MADE] if result in ("made", "both") else []
        if result in ("given", "both"):
            parts.extend([has[one] for one in args])
        return _with(has, s, _together(parts))


def looks(library):
    """For each function (calm, result, reads, blind), as [10] says."""
    check_library(library)
    functions = library[2]
    found = [None] * len(functions)
    # Functions call only later ones, so the last one is looked at first.
    for f in reversed(range(len(functions))):
        found[f] = _look(functions[f], found)
    return found


def passes(library, choice):
    """The functions that keep a choice from passing, ascending."""
    check_choice(library, choice)
    found = looks(library)
    functions = library[2]
    marked = [f for f, settings in enumerate(choice) if settings is not None]
    return [f for f in marked if not _may_be_marked(functions[f], choice[f], found[f])]


def _look(function, later):
    """What looks tells of a function; later has what it tells of all functions behind it."""
    text = Text(function, later)
    for place, instruction in enumerate(function[3]):
        text.read(place, instruction)
    return (text.calm, WORDS[text.result], tuple(sorted(text.reads)), text.blind)


def _together(parts):
    """What a variable may have that may have what any of the parts has."""
    return (any([made for made, given in parts]), any([given for made, given in parts]))


def _may_be_given(part):
    made, given = part
    return given


def _with(has, s, part):
    return has[:s] + (part,) + has[s + 1:]


def _may_be_marked(function, settings, look):
    """Whether a function with these settings lets a choice pass."""
    key, kept, errors, size, clears = settings
    calm, result, reads, blind = look
    if not calm:
        return False
    fresh = result == "none" or (result == "made" and kept == "copied")
    if key == "content" or all([sort is None for sort in parameter_sorts(function)]):
        if blind and fresh:
            return True
    if key != "thing" or not all([read in clears for read in reads]):
        return False
    return fresh or (result == "given" and kept == "shared")
