"""A second, slow account of what the document says of rooms, worlds and rows, against which the program is held.

Things are objects here, not names; an error is an exception; each history is done from its beginning.
"""


class Failure(Exception):
    def __init__(self, number):
        Exception.__init__(self, number)
        self.number = number


class Thing:
    def __init__(self, name, kind, fields):
        self.name, self.kind, self.fields = name, kind, fields


class Entry:
    def __init__(self, key, named, arguments, result):
        # named has, place by place of the key, the thing whose name stands there, or None.
        self.key, self.named, self.arguments, self.result = key, named, arguments, result

    def things(self):
        return self.arguments + ([self.result[1]] if self.result[0] == "thing" and self.result[1] is not None else [])


class Teller:
    def __init__(self, library, slots, choice):
        self.modulus, self.kinds, self.functions, self.exported = library
        self.choice = choice
        self.slots = [None for kind in slots]
        self.there = []
        self.rooms = [[] for function in self.functions]
        self.hits = 0
        self.hits_of = [0 for function in self.functions]

    def sorts(self, f):
        return self.functions[f][1][:self.functions[f][0]]

    def do(self, deed):
        self.hits = 0
        telling = None
        if deed[0] == "drop":
            self.slots[deed[1]] = None
        else:
            passed = [given if sort is None else self.slots[given] for sort, given in zip(self.sorts(deed[1]), deed[2])]
            try:
                result = self.call(deed[1], passed)
                if deed[3] is not None:
                    self.slots[deed[3]] = result
                if self.functions[deed[1]][2] is None:
                    telling = result
            except Failure as failure:
                telling = ("error", failure.number)
        self.bury()
        return telling, self.hits

    def give(self, f, settings):
        """Give function f other settings, as a keeper does."""
        self.choice = self.choice[:f] + (settings,) + self.choice[f + 1:]
        self.rooms[f] = []
        self.bury()

    def bury(self):
        alive = self.alive()
        self.there = [thing for thing in self.there if thing in alive]

    def alive(self):
        """The alive things, in the order in which renumbering meets them."""
        order = []
        roots = list(self.slots)
        for room in self.rooms:
            for entry in room:
                roots += entry.things()
        while roots:
            thing = roots.pop(0)
            if isinstance(thing, Thing) and thing not in order:
                order.append(thing)
                roots = list(thing.fields) + roots
        return order

    def new(self, kind):
        names = {thing.name for thing in self.there}
        name = min(set(range(len(names) + 1)) - names)
        self.there.append(Thing(name, kind, [0 if sort is None else None for sort in self.kinds[kind]]))
        return self.there[-1]

    def copy(self, thing):
        if not isinstance(thing, Thing):
            return thing
        twins = {}

        def twin(one):
            if not isinstance(one, Thing):
                return one
            if one not in twins:
                twins[one] = self.new(one.kind)
                twins[one].fields = [twin(part) for part in one.fields]
            return twins[one]

        return twin(thing)

    def value(self, thing):
        if isinstance(thing, Thing):
            return (thing.kind,) + tuple(self.value(part) for part in thing.fields)
        return thing

    def call(self, f, passed):
        marked = self.choice[f]
        if not marked:
            return self.execute(f, passed)
        key, result, errors, size, clears = marked
        if key == "content":
            asked = tuple(self.value(one) for one in passed)
        else:
            asked = tuple(one.name if isinstance(one, Thing) else one for one in passed)
        for entry in self.rooms[f]:
            if entry.key == asked:
                self.hits += 1
                self.hits_of[f] += 1
                if entry.result[0] == "error":
                    raise Failure(entry.result[1])
                return self.copy(entry.result[1]) if result == "copied" else entry.result[1]
        told = None
        try:
            own = self.execute(f, passed)
            told = ("number" if self.functions[f][2] is None else "thing", self.copy(own) if result == "copied" else own)
            return own
        except Failure as failure:
            if errors:
                told = ("error", failure.number)
            raise
        finally:
            if told is not None:
                things = [one for one in passed if isinstance(one, Thing)] if key == "thing" else []
                named = [one if isinstance(one, Thing) and key == "thing" else None for one in passed]
                self.rooms[f].append(Entry(asked, named, things, told))
                while len(self.rooms[f]) > size:
                    self.rooms[f].pop(0)

    def execute(self, f, passed):
        parameters, variables, result, body = self.functions[f]
        has = passed + [0 if sort is None else None for sort in variables[parameters:]]
        at = 0
        while at < len(body):
            match body[at]:
                case ("number", s, c):
                    has[s] = c
                case ("add", s, c):
                    has[s] = (has[s] + c) % self.modulus
                case ("copy", s, t):
                    has[s] = has[t]
                case ("make", s):
                    has[s] = self.new(variables[s])
                case ("get", s, t, i):
                    has[s] = self.reach(has[t]).fields[i]
                case ("put", t, i, u):
                    self.reach(has[t]).fields[i] = has[u]
                    for g, marked in enumerate(self.choice):
                        if marked and (has[t].kind, i) in marked[4]:
                            self.rooms[g].clear()
                case ("same", s, t, u):
                    has[s] = int(has[t] is has[u])
                case ("if", s, k):
                    at = k - 1 if isinstance(has[s], Thing) or has[s] not in (0, None) else at
                case ("jump", k):
                    at = k - 1
                case ("call", s, g, args):
                    has[s] = self.call(g, [has[one] for one in args])
                case ("return", t):
                    return has[t]
                case ("fail", e):
                    raise Failure(e)
            at += 1
        return 0 if result is None else None

    def reach(self, thing):
        if thing is None:
            raise Failure(0)
        return thing

    def world(self, names=None):
        """The world with other names, by thing, or as it is."""
        if names is None:
            names = {thing: thing.name for thing in self.there}

        def named(one):
            return names[one] if isinstance(one, Thing) else one

        def told(entry):
            key = tuple(part if thing is None else names[thing] for part, thing in zip(entry.key, entry.named))
            return (key, tuple(map(named, entry.arguments)), (entry.result[0], named(entry.result[1])))

        things = sorted((names[thing], thing.kind, tuple(map(named, thing.fields))) for thing in self.there)
        return (tuple(map(named, self.slots)), tuple(things), tuple(tuple(map(told, room)) for room in self.rooms))

    def renumbered(self):
        if any(marked and marked[0] == "name" for marked in self.choice):
            return self.world()
        return self.world({thing: number for number, thing in enumerate(self.alive())})


def teller_behind(library, slots, history, choice):
    teller = Teller(library, slots, choice)
    tellings = [teller.do(deed) for deed in history]
    return teller, [telling for telling, hits in tellings], [hits for telling, hits in tellings]


def row_behind(library, slots, history, choice):
    """The row behind a history, or None if one of its deeds does not tell the same in both worlds."""
    plain, plainly, _ = teller_behind(library, slots, history, (None,) * len(choice))
    marked, markedly, _ = teller_behind(library, slots, history, choice)
    return (plain.renumbered(), marked.renumbered()) if plainly == markedly else None


def layers_of(library, slots, choice, every, most):
    """The layers of rows as {row: number of deeds}, up to the first layer with a row behind which a deed is apart.

    Returns (rows, True) if there is such a layer, (rows, False) if the rows are all, None if they are more than most.
    """
    histories = {row_behind(library, slots, [], choice): []}
    layer = list(histories.items())
    while layer:
        fresh = {}
        for row, history in layer:
            for deed in every:
                behind = row_behind(library, slots, history + [deed], choice)
                if behind is None:
                    return {one: len(way) for one, way in histories.items()}, True
                if behind not in histories:
                    fresh.setdefault(behind, history + [deed])
        histories.update(fresh)
        layer = list(fresh.items())
        if len(histories) > most:
            return None
    return {one: len(way) for one, way in histories.items()}, False
