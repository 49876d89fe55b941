"""Libraries of functions over things: what is a library, and what is none."""

from keptcalls.errors import NoLibrary

MOST_FUNCTIONS = 5
MOST_PARAMETERS = 2
MOST_VARIABLES = 6
MOST_INSTRUCTIONS = 8
MOST_FIELDS = 2
MOST_STEPS = 48
GREATEST_ERROR = 9

# The roles of what follows each word; "arguments" is a tuple, all others are integers.
ROLES = {
    "number": ("variable", "number"),
    "add": ("variable", "number"),
    "copy": ("variable", "variable"),
    "make": ("variable",),
    "get": ("variable", "variable", "field"),
    "put": ("variable", "field", "variable"),
    "same": ("variable", "variable", "variable"),
    "if": ("variable", "place"),
    "jump": ("place",),
    "call": ("variable", "function", "arguments"),
    "return": ("variable",),
    "fail": ("error",),
}


def is_library(thing):
    """Whether a thing is a library."""
    if not (is_tuple(thing, 4, 4) and is_integer(thing[0], 2, 4)):
        return False
    modulus, kinds, functions, exported = thing
    if not (_are_kinds(kinds) and is_tuple(functions, 0, MOST_FUNCTIONS)):
        return False
    # A call is compared with the head of the function that it calls, so all heads come first.
    if not all([_has_head(kinds, function) for function in functions]):
        return False
    if not all([_has_body(thing, f) for f in range(len(functions))]):
        return False
    return _are_exported(functions, exported) and all([many <= MOST_STEPS for many in _steps(functions)])


def check_library(library):
    """Raise NoLibrary for what is no library."""
    if not is_library(library):
        raise NoLibrary("this is no library")


def is_integer(thing, low, high):
    """Whether a thing is an integer within bounds; Python counts True and False as integers, here they are none."""
    return isinstance(thing, int) and not isinstance(thing, bool) and low <= thing <= high


def is_tuple(thing, least, most):
    """Whether a thing is a tuple with a number of members within bounds."""
    return isinstance(thing, tuple) and least <= len(thing) <= most


def is_sort(kinds, thing):
    """Whether a thing is a sort: None, for numbers, or a kind."""
    return thing is None or is_integer(thing, 0, len(kinds) - 1)


def parameter_sorts(function):
    """The sorts of a function's parameters, one after the other."""
    parameters, variables, result, body = function
    return variables[:parameters]


def is_ascending(members):
    """Whether each member of a tuple, an integer or a tuple of integers, is greater than the one ahead of it."""
    return all([low < high for low, high in zip(members, members[1:])])


def _are_kinds(thing):
    return is_tuple(thing, 1, 2) and all([_is_kind(kind, fields) for kind, fields in enumerate(thing)])


def _is_kind(kind, thing):
    return is_tuple(thing, 0, MOST_FIELDS) and all([_is_field(kind, field) for field in thing])


def _is_field(kind, thing):
    return thing is None or (kind == 1 and is_integer(thing, 0, 0))


def _has_head(kinds, thing):
    """Whether a thing is a function, whatever its instructions are."""
    if not is_tuple(thing, 4, 4):
        return False
    parameters, variables, result, body = thing
    if not (is_tuple(variables, 0, MOST_VARIABLES) and all([is_sort(kinds, sort) for sort in variables])):
        return False
    if not is_integer(parameters, 0, min(MOST_PARAMETERS, len(variables))):
        return False
    return is_sort(kinds, result) and is_tuple(body, 0, MOST_INSTRUCTIONS)


def _has_body(library, f):
    """Whether each instruction of a function is one, at its place."""
    body = library[2][f][3]
    return all([_is_instruction(library, f, place, thing) for place, thing in enumerate(body)])


def _is_instruction(library, f, place, thing):
    return _has_form(library, f, place, thing) and _sorts_agree(library, f, thing)


def _has_form(library, f, place, thing):
    """Whether a thing is a word and what may follow it, whatever the sorts of the variables are."""
    if not (is_tuple(thing, 1, 4) and isinstance(thing[0], str) and thing[0] in ROLES):
        return False
    roles = ROLES[thing[0]]
    bounds = _bounds(library, f, place)
    if len(thing) != 1 + len(roles):
        return False
    return all([_is_part(bounds, role, part) for role, part in zip(roles, thing[1:])])


def _bounds(library, f, place):
    """The least and the greatest integer of each role, at a place of a function."""
    modulus, kinds, functions, exported = library
    parameters, variables, result, body = functions[f]
    return {
        "variable": (0, len(variables) - 1),
        "number": (0, modulus - 1),
        "field": (0, MOST_FIELDS - 1),
        "place": (place + 1, len(body)),
        "function": (f + 1, len(functions) - 1),
        "error": (0, GREATEST_ERROR),
    }


def _is_part(bounds, role, thing):
    if role == "arguments":
        return is_tuple(thing, 0, MOST_PARAMETERS) and all([_is_part(bounds, "variable", one) for one in thing])
    low, high = bounds[role]
    return is_integer(thing, low, high)


def _sorts_agree(library, f, instruction):
    """Whether the variables of an instruction, which has its form, are of the sorts that it asks for."""
    modulus, kinds, functions, exported = library
    parameters, sorts, result, body = functions[f]
    word = instruction[0]
    if word in ("number", "add"):
        return sorts[instruction[1]] is None
    if word == "copy":
        return sorts[instruction[1]] == sorts[instruction[2]]
    if word == "make":
        return sorts[instruction[1]] is not None
    if word == "get":
        word, s, t, i = instruction
        return _has_field(kinds, sorts[t], i, sorts[s])
    if word == "put":
        word, t, i, u = instruction
        return _has_field(kinds, sorts[t], i, sorts[u])
    if word == "same":
        word, s, t, u = instruction
        return sorts[s] is None and sorts[t] is not None and sorts[t] == sorts[u]
    if word == "call":
        word, s, g, args = instruction
        return sorts[s] == functions[g][2] and tuple([sorts[one] for one in args]) == parameter_sorts(functions[g])
    if word == "return":
        return sorts[instruction[1]] == result
    return True


def _has_field(kinds, kind, i, sort):
    """Whether things of a kind have a field i, of a sort; kind is None for a variable that has numbers."""
    return kind is not None and i < len(kinds[kind]) and kinds[kind][i] == sort


def _are_exported(functions, thing):
    if not is_tuple(thing, 0, len(functions)):
        return False
    return all([is_integer(f, 0, len(functions) - 1) for f in thing]) and is_ascending(thing)


def _steps(functions):
    """The steps of each function; functions call only later ones, so the last one's are known first."""
    steps = [0] * len(functions)
    for f in reversed(range(len(functions))):
        body = functions[f][3]
        steps[f] = len(body) + sum([steps[instruction[2]] for instruction in body if instruction[0] == "call"])
    return steps
