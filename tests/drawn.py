"""Libraries, choices and histories that are drawn; the same number draws the same ones."""

import random

from keptcalls.libraries import is_library
from keptcalls.users import deeds

KINDS = [((None,),), ((None, None),), ((),), ((None,), (0,)), ((None,), (None, 0)), ((None,), (0, 0)), ((), (0, 0)),
         ((None, None), (0, None))]


def library_of(seed):
    draw = random.Random(f"library {seed}")
    while True:
        found = _library(draw)
        if is_library(found):
            return found


def _library(draw):
    modulus = draw.choice([2, 2, 3, 4])
    kinds = draw.choice(KINDS)
    functions = []
    # From the last function on, as functions call only later ones.
    for kind in range(len(kinds)):
        functions.insert(0, draw.choice(_makers(kinds, kind)))
    while len(functions) < 5:
        functions = [_moved(function) for function in [draw.choice(_sensible(kinds))] + functions]
        if draw.random() < 0.4:
            functions[0] = _with_other_body(draw, modulus, kinds, functions)
    exported = tuple(f for f in range(len(functions)) if draw.random() < 0.9)
    return (modulus, kinds, tuple(functions), exported)


def _moved(function):
    """The function with all that it calls one place further on, as one more stands ahead of it now."""
    parameters, variables, result, body = function
    return (parameters, variables, result, tuple(
        row[:2] + (row[2] + 1,) + row[3:] if row[0] == "call" else row for row in body))


def _makers(kinds, kind):
    made = [(0, (kind,), kind, (("make", 0), ("return", 0)))]
    for i, sort in enumerate(kinds[kind]):
        if sort == 0:
            made.append((0, (kind, 0), kind, (("make", 0), ("make", 1), ("put", 0, i, 1), ("return", 0))))
    return made


def _sensible(kinds):
    """Functions that read, write, compare and hand on what is passed to them; more of those that read and write."""
    found = []
    for kind, row in enumerate(kinds):
        found.append((2, (kind, kind, None), None, (("same", 2, 0, 1), ("return", 2))))
        found.append((1, (kind,), kind, (("return", 0),)))
        for i, sort in enumerate(row):
            found.extend(_for_numbers(kind, i) if sort is None else _for_things(kind, i))
    return found


def _for_numbers(kind, i):
    read = (1, (kind, None), None, (("get", 1, 0, i), ("return", 1)))
    write = (1, (kind, None), None, (("get", 1, 0, i), ("add", 1, 1), ("put", 0, i, 1)))
    return [read, read, write, write, (1, (kind, None), None, (("get", 1, 0, i), ("if", 1, 3), ("fail", 3), ("return", 1))),
            (2, (kind, None), kind, (("put", 0, i, 1), ("return", 0))),
            (1, (kind, None, kind), kind, (("get", 1, 0, i), ("make", 2), ("put", 2, i, 1), ("return", 2)))]


def _for_things(kind, i):
    return [(1, (kind, 0), 0, (("get", 1, 0, i), ("return", 1))),
            (2, (kind, 0), None, (("put", 0, i, 1),)),
            (1, (kind, 0, None), None, (("get", 1, 0, i), ("if", 1, 3), ("fail", 5), ("number", 2, 1), ("return", 2)))]


def _with_other_body(draw, modulus, kinds, functions):
    """The first function with some instructions ahead of its own ones."""
    parameters, variables, result, body = functions[0]
    variables = (variables + (None, draw.choice(list(range(len(kinds))))))[:6]
    heads = [(parameters, variables, result)] + [function[:3] for function in functions[1:]]
    ahead = []
    while len(ahead) < min(draw.randint(1, 4), 8 - len(body)):
        row = _instruction(draw, modulus, kinds, heads, 0, len(ahead), 8)
        if row is not None and row[0] not in ("if", "jump", "return"):
            ahead.append(row)
    body = tuple(row if row[0] not in ("if", "jump") else row[:-1] + (min(row[-1] + len(ahead), len(ahead + list(body))),)
                 for row in body)
    return (parameters, variables, result, tuple(ahead) + body)


WORDS = (["number", "add", "add", "copy", "same", "if", "if", "jump", "return", "fail"] + ["make"] * 2 + ["get"] * 6
         + ["put"] * 6 + ["call"] * 4)


def _instruction(draw, modulus, kinds, heads, f, at, many):
    parameters, sorts, result = heads[f]
    word = draw.choice(WORDS)

    def one(*wanted):
        fit = [v for v, sort in enumerate(sorts) if sort in wanted]
        return draw.choice(fit) if fit else None

    things = list(range(len(kinds)))
    k = draw.randint(at + 1, many)
    if word == "jump":
        return ("jump", k) if draw.random() < 0.5 else None
    if word == "fail":
        return ("fail", draw.randint(0, 9)) if draw.random() < 0.4 else None
    if word == "if":
        return ("if", draw.randrange(len(sorts)), k)
    if word == "return":
        return _filled((word, one(result))) if draw.random() < 0.5 else None
    if word in ("number", "add"):
        return _filled((word, one(None), draw.randrange(modulus)))
    if word == "make":
        return _filled((word, one(*things)))
    if word == "copy":
        s = draw.randrange(len(sorts))
        return (word, s, one(sorts[s]))
    t = one(*things)
    if t is None:
        return None
    if word == "same":
        return _filled((word, one(None), t, one(sorts[t])))
    if word == "call":
        return _call(draw, heads, f, one)
    if not kinds[sorts[t]]:
        return None
    i = draw.randrange(len(kinds[sorts[t]]))
    u = one(kinds[sorts[t]][i])
    return _filled((word, u, t, i) if word == "get" else (word, t, i, u))


def _call(draw, heads, f, one):
    if f + 1 == len(heads):
        return None
    g = draw.randrange(f + 1, len(heads))
    args = tuple(one(sort) for sort in heads[g][1][:heads[g][0]])
    return None if None in args else _filled(("call", one(heads[g][2]), g, args))


def _filled(row):
    return None if None in row else row


def settings_of(draw, kinds, key=None):
    fields = [(kind, i) for kind, row in enumerate(kinds) for i in range(len(row))]
    return (key or draw.choice(["name", "thing", "content"]), draw.choice(["shared", "copied"]), draw.randint(0, 1),
            draw.randint(1, 3), tuple(place for place in fields if draw.random() < 0.4))


def choice_of(seed, library, most=2, key=None):
    """A choice in which up to so many functions are not plain."""
    draw = random.Random(f"choice {seed}")
    functions = range(len(library[2]))
    marked = draw.sample(functions, min(len(functions), draw.randint(1, most)))
    return tuple(settings_of(draw, library[1], key) if f in marked else None for f in functions)


def slots_of(seed, library):
    draw = random.Random(f"slots {seed}")
    return tuple(draw.randrange(len(library[1])) for _ in range(draw.randint(1, 2)))


def history_of(seed, library, slots, many):
    draw = random.Random(f"history {seed}")
    every = deeds(library, slots)
    return [draw.choice(every) for _ in range(many)] if every else []


def cases(first, many, most=3, key=None):
    """Some (library, slots, choice), one for each number from the first one on."""
    found = []
    for seed in range(first, first + many):
        library = library_of(seed)
        found.append((library, slots_of(seed, library), choice_of(seed, library, most, key)))
    return found


def wild_library(seed):
    """A library of functions of any instructions, with more ways, and with less sense, than those above."""
    draw = random.Random(f"wild {seed}")
    while True:
        kinds = draw.choice(KINDS)
        modulus = draw.choice([2, 3, 4])
        sorts = [None] + list(range(len(kinds))) * 2
        heads = []
        for f in range(draw.randint(1, 4)):
            variables = tuple(draw.choice(sorts) for _ in range(draw.randint(2, 6)))
            things = [sort for sort in variables if sort is not None]
            heads.append((draw.randint(0, min(2, len(variables))), variables, draw.choice(list(variables) + 2 * things)))
        functions = tuple(head + (_wild_body(draw, modulus, kinds, heads, f),) for f, head in enumerate(heads))
        library = (modulus, kinds, functions, tuple(f for f in range(len(functions)) if draw.random() < 0.9))
        if is_library(library):
            return library


def _wild_body(draw, modulus, kinds, heads, f):
    """A body with about as many ways as instructions, most of which end in a "return"."""
    parameters, variables, result = heads[f]
    body = []
    many = draw.randint(0, 8)
    while len(body) < many:
        if draw.random() < 0.3:
            row = ("if", draw.randrange(len(variables)), draw.randint(len(body) + 1, many))
        elif draw.random() < 0.2:
            row = ("return", draw.choice([v for v, sort in enumerate(variables) if sort == result]))
        else:
            row = _instruction(draw, modulus, kinds, heads, f, len(body), many)
        if row is not None:
            body.append(row)
    return tuple(body)
