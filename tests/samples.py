"""Libraries and helpers that several tests use."""

# The libraries of the document's examples.
COUNTER = (2, ((None,),), (
    (0, (0,), 0, (("make", 0), ("return", 0))),
    (1, (0, None), None, (("get", 1, 0, 0), ("add", 1, 1), ("put", 0, 0, 1))),
    (1, (0, None), None, (("get", 1, 0, 0), ("return", 1)))), (0, 1, 2))
PAIR = (2, ((None, None),), (
    (0, (0,), 0, (("make", 0), ("return", 0))),
    (1, (0, None), None, (("call", 1, 3, (0,)), ("call", 1, 4, (0,)))),
    (1, (0, None, None), None, (
        ("get", 1, 0, 0), ("get", 2, 0, 1), ("if", 1, 4), ("return", 2), ("add", 2, 1), ("return", 2))),
    (1, (0, None), None, (("get", 1, 0, 0), ("add", 1, 1), ("put", 0, 0, 1))),
    (1, (0, None), None, (("get", 1, 0, 1), ("add", 1, 1), ("put", 0, 1, 1)))), (0, 1, 2))

# Two kinds, each of the twelve instructions, functions that are and that are not exported.
BOX = (3, ((None,), (None, 0)), (
    (2, (1, None, 0, None), 0, (
        ("get", 2, 0, 1), ("if", 2, 4), ("make", 2), ("put", 0, 1, 2), ("call", 3, 2, (2, 1)), ("return", 2))),
    (2, (0, 0, None), None, (("same", 2, 0, 1), ("return", 2))),
    (2, (0, None), None, (("if", 0, 2), ("fail", 7), ("put", 0, 0, 1))),
    (0, (1,), 1, (("make", 0), ("return", 0))),
    (1, (None, None), None, (("number", 1, 2), ("copy", 1, 0), ("jump", 4), ("fail", 9), ("add", 1, 1), ("return", 1))),
), (0, 1, 3, 4))

EMPTY = (2, ((),), (), ())

NO_LIBRARIES = [None, True, False, 0, 1, 10 ** 20, "", "library", (), [], {}, list(COUNTER), COUNTER[:3],
                COUNTER + (0,), (True,) + COUNTER[1:], {"modulus": 2}]
NO_SLOTS = [None, True, False, 0, 1, "", "00", [], [0], {}, {0: 0}, (None,), (True,), (False,), (-1,), (2,),
            (0, 0, 0), ("0",), ((0,),), ([0],)]


def positions(value):
    """All paths into nested tuples, each a tuple of indexes; the whole value is the path ()."""
    found = [()]
    if isinstance(value, tuple):
        for at, member in enumerate(value):
            found.extend((at,) + path for path in positions(member))
    return found


def at_path(value, path):
    for at in path:
        value = value[at]
    return value


def replaced(value, path, new):
    """The nested tuples with another value at a path."""
    if path == ():
        return new
    at = path[0]
    return value[:at] + (replaced(value[at], path[1:], new),) + value[at + 1:]


# Functions of several libraries: over things of kind 0, ((None,),), which have one number.
MAKE = (0, (0,), 0, (("make", 0), ("return", 0)))
READ = (1, (0, None), None, (("get", 1, 0, 0), ("return", 1)))
WRITE = (2, (0, None), None, (("put", 0, 0, 1),))
BUMP = (1, (0, None), None, (("get", 1, 0, 0), ("add", 1, 1), ("put", 0, 0, 1)))
SAME = (2, (0, 0, None), None, (("same", 2, 0, 1), ("return", 2)))
GIVE = (1, (0,), 0, (("return", 0),))
# Over things of kind 1, ((None,), (None, 0)), which have a number and a thing of kind 0.
MAKE_OUTER = (0, (1, 0), 1, (("make", 0), ("make", 1), ("put", 0, 1, 1), ("return", 0)))
INNER = (1, (1, 0), 0, (("get", 1, 0, 1), ("return", 1)))
LINK = (2, (1, 0), None, (("put", 0, 1, 1),))


def library_with(*functions, modulus=3, kinds=((None,), (None, 0))):
    """A library with these functions, all of them exported."""
    return (modulus, kinds, functions, tuple(range(len(functions))))


def call(f, *args, k=None):
    return ("call", f, args, k)


def plain(library):
    return (None,) * len(library[2])


def choice_with(library, **settings):
    """The choice in which the functions f0, f1, .. have settings, the others being plain."""
    return tuple(settings.get(f"f{f}") for f in range(len(library[2])))


def marks(key, result="shared", errors=0, size=1, clears=()):
    return (key, result, errors, size, clears)


# Function 0 makes an outer thing, 1 gives its inner one, 2 reads an inner one, 3 writes it, 4 links.
BOXES = library_with(MAKE_OUTER, INNER, READ, WRITE, LINK)

# A counter of three digits, each from 0 to 3, the last one in an outer thing, the others in its inner one. Function 3
# is called when the last one changes, and returns 1 but for 0, so it is told otherwise behind 65 deeds for the first time.
FAR = (4, ((None, None), (None, 0)), (
    MAKE_OUTER,
    (1, (1, 0, None), None, (
        ("get", 1, 0, 1), ("call", 2, 2, (1,)), ("if", 2, 7), ("get", 2, 0, 0), ("add", 2, 1), ("put", 0, 0, 2),
        ("call", 2, 3, (0,)), ("return", 2))),
    (1, (0, None), None, (
        ("get", 1, 0, 0), ("add", 1, 1), ("put", 0, 0, 1), ("if", 1, 7), ("get", 1, 0, 1), ("add", 1, 1), ("put", 0, 1, 1),
        ("return", 1))),
    (1, (1, None), None, (("get", 1, 0, 0), ("if", 1, 3), ("return", 1), ("number", 1, 1), ("return", 1)))), (0, 1))
FAR_CHOICE = (None, None, None, ("name", "shared", 0, 1, ()))
