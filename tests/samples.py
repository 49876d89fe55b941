"""Libraries and helpers that several tests use."""

# The libraries of the document's examples.
COUNTER = (2, ((None,),), (
    (0, (0,), 0, (("make", 0), ("return", 0))),
    (1, (0, None), None, (("get", 1, 0, 0), ("add", 1, 1), ("put", 0, 0, 1))),
    (1, (0, None), None, (("get", 1, 0, 0), ("return", 1)))), (0, 1, 2))
PAIR = (2, ((None, None),), (
    (0, (0,), 0, (("make", 0), ("return", 0))),
    (1, (0, None), None, (("call", 1, 3, (0,)), ("call", 1, 4, (0,)))),
    (1, (0, None, None), None, (
        ("get", 1, 0, 0), ("get", 2, 0, 1), ("if", 1, 4), ("return", 2), ("add", 2, 1), ("return", 2))),
    (1, (0, None), None, (("get", 1, 0, 0), ("add", 1, 1), ("put", 0, 0, 1))),
    (1, (0, None), None, (("get", 1, 0, 1), ("add", 1, 1), ("put", 0, 1, 1)))), (0, 1, 2))

# Two kinds, each of the twelve instructions, functions that are and that are not exported.
BOX = (3, ((None,), (None, 0)), (
    (2, (1, None, 0, None), 0, (
        ("get", 2, 0, 1), ("if", 2, 4), ("make", 2), ("put", 0, 1, 2), ("call", 3, 2, (2, 1)), ("return", 2))),
    (2, (0, 0, None), None, (("same", 2, 0, 1), ("return", 2))),
    (2, (0, None), None, (("if", 0, 2), ("fail", 7), ("put", 0, 0, 1))),
    (0, (1,), 1, (("make", 0), ("return", 0))),
    (1, (None, None), None, (("number", 1, 2), ("copy", 1, 0), ("jump", 4), ("fail", 9), ("add", 1, 1), ("return", 1))),
), (0, 1, 3, 4))

EMPTY = (2, ((),), (), ())

NO_LIBRARIES = [None, True, False, 0, 1, 10 ** 20, "", "library", (), [], {}, list(COUNTER), COUNTER[:3],
                COUNTER + (0,), (True,) + COUNTER[1:], {"modulus": 2}]
NO_SLOTS = [None, True, False, 0, 1, "", "00", [], [0], {}, {0: 0}, (None,), (True,), (False,), (-1,), (2,),
            (0, 0, 0), ("0",), ((0,),), ([0],)]


def positions(value):
    """All paths into nested tuples, each a tuple of indexes; the whole value is the path ()."""
    found = [()]
    if isinstance(value, tuple):
        for at, member in enumerate(value):
            found.extend((at,) + path for path in positions(member))
    return found


def at_path(value, path):
    for at in path:
        value = value[at]
    return value


def replaced(value, path, new):
    """The nested tuples with another value at a path."""
    if path == ():
        return new
    at = path[0]
    return value[:at] + (replaced(value[at], path[1:], new),) + value[at + 1:]
