"""Choices, and what a user is told by a library whose functions have rooms."""

from keptcalls.doing import User
from keptcalls.errors import NoChoice
from keptcalls.libraries import check_library, is_ascending, is_integer, is_tuple
from keptcalls.users import check_history

KEYS = ("name", "thing", "content")
RESULTS = ("shared", "copied")
LARGEST_SIZE = 3


def is_choice(library, thing):
    """Whether a thing is a choice for a library."""
    check_library(library)
    modulus, kinds, functions, exported = library
    many = len(functions)
    return is_tuple(thing, many, many) and all([one is None or is_settings(kinds, one) for one in thing])


def check_choice(library, choice):
    """Raise NoLibrary for what is no library, then NoChoice for what is no choice for it."""
    if not is_choice(library, choice):
        raise NoChoice("this is no choice for the library")


def is_settings(kinds, thing):
    """Whether a thing is settings of a function of a library with these kinds."""
    if not is_tuple(thing, 5, 5):
        return False
    key, result, errors, size, clears = thing
    if not (key in KEYS and result in RESULTS):
        return False
    return is_integer(errors, 0, 1) and is_integer(size, 1, LARGEST_SIZE) and _are_clears(kinds, clears)


def all_fields(kinds):
    """All (kind, field) of a library with these kinds, ascending."""
    return [(kind, i) for kind, fields in enumerate(kinds) for i in range(len(fields))]


def told(library, slots, history, choice):
    """What the deeds of a history tell, and the number of hits in each of them."""
    check_history(library, slots, history)
    check_choice(library, choice)
    user = User(library, slots, choice)
    tellings = []
    hits = []
    for deed in history:
        before = sum(user.hit_counts)
        tellings.append(user.act(deed))
        hits.append(sum(user.hit_counts) - before)
    return (tellings, hits)


def _are_clears(kinds, thing):
    most = len(all_fields(kinds))
    return is_tuple(thing, 0, most) and all([_is_place(kinds, one) for one in thing]) and is_ascending(thing)


def _is_place(kinds, thing):
    """Whether a thing is a (kind, field)."""
    if not (is_tuple(thing, 2, 2) and is_integer(thing[0], 0, len(kinds) - 1)):
        return False
    return is_integer(thing[1], 0, len(kinds[thing[0]]) - 1)
