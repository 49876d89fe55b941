"""Users who do deeds: calls are executed or are hits, entries and things come and go."""

from keptcalls.libraries import parameter_sorts


class User:
    """A user of a library with a choice, and all that is there: slots, things and rooms."""

    def __init__(self, library, slots, choice):
        self.library = library
        self.marks = choice
        self.held = [None] * len(slots)
        self.things = {}
        self.rooms = [[] for settings in choice]
        self.hit_counts = [0] * len(choice)

    def stand(self, world):
        """Stand in a world; the hits that were counted stay."""
        held, things, rooms = world
        self.held = list(held)
        self.things = {name: (kind, list(fields)) for name, kind, fields in things}
        self.rooms = [list(room) for room in rooms]

    def world(self):
        """The world, as it is."""
        things = [(name, self.things[name][0], tuple(self.things[name][1])) for name in sorted(self.things)]
        return (tuple(self.held), tuple(things), tuple([tuple(room) for room in self.rooms]))

    def act(self, deed):
        """Do a deed, and return what it tells."""
        if deed[0] == "drop":
            self.held[deed[1]] = None
            telling = None
        else:
            telling = self._act_on_call(deed)
        self.remove_the_dead()
        return telling

    def _act_on_call(self, deed):
        word, f, args, k = deed
        sorts = parameter_sorts(self.library[2][f])
        outcome = self._call(f, tuple([one if sort is None else self.held[one] for sort, one in zip(sorts, args)]))
        if outcome[0] == "error":
            return outcome
        if k is not None:
            self.held[k] = outcome[1]
        return outcome[1] if outcome[0] == "number" else None

    def remove_the_dead(self):
        """Remove all things that are not alive."""
        names = met(self.library[1], had(self.held, self.rooms), self.things)
        self.things = {name: self.things[name] for name in self.things if name in names}

    def _call(self, f, args):
        """The outcome of a call, in the form that the results of entries have; args are numbers, names and None."""
        settings = self.marks[f]
        if settings is None:
            return self._execute(f, args)
        key = self._key(f, args)
        known = self._known(f, key)
        if known is not None:
            self.hit_counts[f] += 1
            return self._handed(settings, known)
        outcome = self._execute(f, args)
        if outcome[0] != "error" or settings[2] == 1:
            self._keep(f, key, args, outcome)
        return outcome

    def _key(self, f, args):
        if self.marks[f][0] != "content":
            return args
        sorts = parameter_sorts(self.library[2][f])
        return tuple([one if sort is None else self._value(one) for sort, one in zip(sorts, args)])

    def _value(self, name):
        if name is None:
            return None
        kind, fields = self.things[name]
        sorts = self.library[1][kind]
        return (kind,) + tuple([part if sort is None else self._value(part) for sort, part in zip(sorts, fields)])

    def _known(self, f, key):
        """The result of the entry with a key, or None if there is no such entry."""
        for known, arguments, result in self.rooms[f]:
            if known == key:
                return result
        return None

    def _handed(self, settings, result):
        """What goes into a room, or comes out of it, for a result."""
        if settings[1] == "copied" and result[0] == "thing":
            return ("thing", self._copy(result[1], {}))
        return result

    def _keep(self, f, key, args, outcome):
        settings = self.marks[f]
        sorts = parameter_sorts(self.library[2][f])
        arguments = things_among(sorts, args) if settings[0] == "thing" else ()
        entry = (key, arguments, self._handed(settings, outcome))
        self.rooms[f] = (self.rooms[f] + [entry])[-settings[3]:]

    def _make(self, kind):
        name = 0
        while name in self.things:
            name += 1
        self.things[name] = (kind, [blank(sort) for sort in self.library[1][kind]])
        return name

    def _copy(self, name, copies):
        """The copy of a thing; copies has those that are made already, what is one thing being one in the copy."""
        if name is None or name in copies:
            return copies.get(name)
        kind, fields = self.things[name]
        new = self._make(kind)
        copies[name] = new
        for i, sort in enumerate(self.library[1][kind]):
            self.things[new][1][i] = fields[i] if sort is None else self._copy(fields[i], copies)
        return new

    def _execute(self, f, args):
        parameters, sorts, result, body = self.library[2][f]
        has = list(args) + [blank(sort) for sort in sorts[parameters:]]
        place = 0
        while place < len(body):
            instruction = body[place]
            word = instruction[0]
            place += 1
            if word == "return":
                return _returned(result, has[instruction[1]])
            if word == "fail":
                return ("error", instruction[1])
            if word == "jump":
                place = instruction[1]
            elif word == "if":
                if has[instruction[1]] != blank(sorts[instruction[1]]):
                    place = instruction[2]
            elif word == "call":
                outcome = self._call(instruction[2], tuple([has[one] for one in instruction[3]]))
                if outcome[0] == "error":
                    return outcome
                has[instruction[1]] = outcome[1]
            elif word in ("get", "put"):
                if not self._reach(has, instruction):
                    return ("error", 0)
            else:
                self._work(sorts, has, instruction)
        return _returned(result, blank(result))

    def _reach(self, has, instruction):
        """Do a "get" or a "put"; return whether there was a thing to reach into."""
        if instruction[0] == "get":
            word, s, t, i = instruction
            if has[t] is None:
                return False
            has[s] = self.things[has[t]][1][i]
            return True
        word, t, i, u = instruction
        if has[t] is None:
            return False
        kind, fields = self.things[has[t]]
        fields[i] = has[u]
        self._clear(kind, i)
        return True

    def _clear(self, kind, i):
        for f, settings in enumerate(self.marks):
            if settings is not None and (kind, i) in settings[4]:
                self.rooms[f] = []

    def _work(self, sorts, has, instruction):
        """Do an instruction that goes on at the next place in any case."""
        word = instruction[0]
        s = instruction[1]
        if word == "number":
            has[s] = instruction[2]
        elif word == "add":
            has[s] = (has[s] + instruction[2]) % self.library[0]
        elif word == "copy":
            has[s] = has[instruction[2]]
        elif word == "make":
            has[s] = self._make(sorts[s])
        elif word == "same":
            has[s] = 1 if has[instruction[2]] == has[instruction[3]] else 0


def blank(sort):
    """What a variable or a field of a sort is at first: 0, or EMPTY."""
    return 0 if sort is None else None


def things_among(sorts, parts):
    """The names of the things among arguments, or parts of a key, of these sorts."""
    return tuple([part for sort, part in zip(sorts, parts) if sort is not None and part is not None])


def had(held, rooms):
    """The names that slots and entries have, in the order of [8], with None for EMPTY."""
    found = list(held)
    for room in rooms:
        for key, arguments, result in room:
            found.extend(arguments)
            if result[0] == "thing":
                found.append(result[1])
    return found


def met(kinds, names, things):
    """The names of all things that are met from these names, each with its number in the order in which it is met."""
    numbers = {}
    for name in names:
        _meet(kinds, name, things, numbers)
    return numbers


def _meet(kinds, name, things, numbers):
    if name is None or name in numbers:
        return
    numbers[name] = len(numbers)
    kind, fields = things[name]
    for sort, part in zip(kinds[kind], fields):
        if sort is not None:
            _meet(kinds, part, things, numbers)


def _returned(sort, worth):
    return ("number" if sort is None else "thing", worth)
