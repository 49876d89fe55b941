"""Users of a library: their slots, their deeds and their histories."""

from keptcalls.errors import NoHistory, NoSlots
from keptcalls.libraries import check_library, is_integer, is_tuple, parameter_sorts

MOST_SLOTS = 2
MOST_DEEDS = 60


def is_slots(library, thing):
    """Whether a thing is slots for a library."""
    check_library(library)
    modulus, kinds, functions, exported = library
    return is_tuple(thing, 0, MOST_SLOTS) and all([is_integer(kind, 0, len(kinds) - 1) for kind in thing])


def check_slots(library, slots):
    """Raise NoLibrary for what is no library, then NoSlots for what is no slots of it."""
    if not is_slots(library, slots):
        raise NoSlots("these are no slots of the library")


def is_history(library, slots, thing):
    """Whether a thing is a history of a user with these slots."""
    check_slots(library, slots)
    if not (isinstance(thing, list) and len(thing) <= MOST_DEEDS):
        return False
    return all([is_deed(library, slots, deed) for deed in thing])


def check_history(library, slots, history):
    """Raise NoLibrary for what is no library, then NoSlots for no slots of it, then NoHistory for no history."""
    if not is_history(library, slots, history):
        raise NoHistory("this is no history of a user with these slots")


def is_deed(library, slots, thing):
    """Whether a thing is a deed; library and slots are taken as they are, without a check."""
    if is_tuple(thing, 2, 2):
        return thing[0] == "drop" and is_integer(thing[1], 0, len(slots) - 1)
    return is_tuple(thing, 4, 4) and thing[0] == "call" and _is_call(library, slots, thing)


def deeds(library, slots):
    """All deeds of a user with these slots, ascending by their texts."""
    check_slots(library, slots)
    modulus, kinds, functions, exported = library
    found = [("drop", k) for k in range(len(slots))]
    for f in exported:
        found.extend(_calls(library, slots, f))
    return sorted(found, key=lambda deed: repr(deed))


def _is_call(library, slots, deed):
    modulus, kinds, functions, exported = library
    word, f, args, k = deed
    if not (is_integer(f, 0, len(functions) - 1) and f in exported):
        return False
    parameters, variables, result, body = functions[f]
    if not is_tuple(args, parameters, parameters):
        return False
    sorts = parameter_sorts(functions[f])
    if not all([_is_argument(modulus, slots, sort, thing) for sort, thing in zip(sorts, args)]):
        return False
    return k is None or (is_integer(k, 0, len(slots) - 1) and slots[k] == result)


def _is_argument(modulus, slots, sort, thing):
    if sort is None:
        return is_integer(thing, 0, modulus - 1)
    return is_integer(thing, 0, len(slots) - 1) and slots[thing] == sort


def _calls(library, slots, f):
    """All deeds that call a function."""
    modulus, kinds, functions, exported = library
    parameters, variables, result, body = functions[f]
    rows = [()]
    for sort in parameter_sorts(functions[f]):
        rows = [row + (one,) for row in rows for one in _arguments(modulus, slots, sort)]
    # No slot is of the sort of numbers, so the result of such a function is always let go.
    return [("call", f, row, k) for row in rows for k in [None] + _slots_of(slots, result)]


def _arguments(modulus, slots, sort):
    """All that may be passed for a parameter of a sort."""
    return list(range(modulus)) if sort is None else _slots_of(slots, sort)


def _slots_of(slots, sort):
    return [k for k, kind in enumerate(slots) if kind == sort]
