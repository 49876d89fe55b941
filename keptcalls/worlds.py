"""Worlds: what there is between deeds, as it is or renumbered, and what has the form of a world."""

from keptcalls.doing import User, had, met, things_among
from keptcalls.errors import NoWorld
from keptcalls.libraries import GREATEST_ERROR, is_ascending, is_integer, is_tuple, parameter_sorts
from keptcalls.rooms import check_choice
from keptcalls.users import check_history, check_slots


def worlds(library, slots, history, choice):
    """The plain world and the marked world behind a history, as they are."""
    check_history(library, slots, history)
    check_choice(library, choice)
    plain = User(library, slots, plain_choice(library))
    marked = User(library, slots, choice)
    for deed in history:
        plain.act(deed)
        marked.act(deed)
    return (plain.world(), marked.world())


def renumbered(library, slots, choice, world):
    """The world renumbered, or as it is if some settings of the choice have the key "name"."""
    check_slots(library, slots)
    check_choice(library, choice)
    if not is_world(library, slots, choice, world):
        raise NoWorld("this has not the form of a world")
    return in_order(library, choice, world)


def plain_choice(library):
    """The choice with which all functions are plain."""
    return (None,) * len(library[2])


def in_order(library, choice, world):
    """What renumbered returns; all is taken as it is, without a check."""
    if any([settings is not None and settings[0] == "name" for settings in choice]):
        return world
    modulus, kinds, functions, exported = library
    held, things, rooms = world
    names = met(kinds, had(held, rooms), {name: (kind, fields) for name, kind, fields in things})
    others = [(names[name], kind, _renamed(kinds[kind], fields, names)) for name, kind, fields in things]
    filled = []
    for function, settings, room in zip(functions, choice, rooms):
        filled.append(tuple([_renamed_entry(parameter_sorts(function), settings, entry, names) for entry in room]))
    return (tuple([names.get(name) for name in held]), tuple(sorted(others)), tuple(filled))


def _renamed(sorts, parts, names):
    """Parts of these sorts, numbers or things, in which the things have other names."""
    return tuple([part if sort is None else names.get(part) for sort, part in zip(sorts, parts)])


def _renamed_entry(sorts, settings, entry, names):
    key, arguments, result = entry
    if settings[0] == "thing":
        key = _renamed(sorts, key, names)
        arguments = tuple([names[name] for name in arguments])
    if result[0] == "thing":
        result = ("thing", names.get(result[1]))
    return (key, arguments, result)


def is_world(library, slots, choice, thing):
    """Whether a thing has the form of a world; library, slots and choice are taken as they are, without a check."""
    if not (is_tuple(thing, 3, 3) and _are_things(library, thing[1])):
        return False
    held, things, rooms = thing
    modulus, kinds, functions, exported = library
    kind_of = {name: kind for name, kind, fields in things}
    if not (is_tuple(held, len(slots), len(slots)) and is_tuple(rooms, len(functions), len(functions))):
        return False
    if not all([_is_had(kind_of, sort, one) for sort, one in zip(slots, held)]):
        return False
    if not all([_is_room(library, f, choice[f], kind_of, room) for f, room in enumerate(rooms)]):
        return False
    alive = met(kinds, had(held, rooms), {name: (kind, fields) for name, kind, fields in things})
    return len(alive) == len(things)


def _are_things(library, thing):
    modulus, kinds, functions, exported = library
    if not (isinstance(thing, tuple) and all([_is_thing(kinds, one) for one in thing])):
        return False
    kind_of = {name: kind for name, kind, fields in thing}
    if not is_ascending(tuple([name for name, kind, fields in thing])):
        return False
    return all([_are_parts(modulus, kind_of, kinds[kind], fields) for name, kind, fields in thing])


def _is_thing(kinds, thing):
    """Whether a thing is (name, kind, fields), whatever its fields are."""
    if not (is_tuple(thing, 3, 3) and _is_name(thing[0]) and is_integer(thing[1], 0, len(kinds) - 1)):
        return False
    many = len(kinds[thing[1]])
    return is_tuple(thing[2], many, many)


def _is_name(thing):
    # No greatest name is told, so any integer from 0 on is one.
    return isinstance(thing, int) and not isinstance(thing, bool) and thing >= 0


def _is_had(kind_of, kind, thing):
    """Whether a thing is the name of one of a kind, or None for EMPTY."""
    return thing is None or (_is_name(thing) and kind_of.get(thing) == kind)


def _are_parts(modulus, kind_of, sorts, parts):
    """Whether all parts are numbers and names of things, as these sorts ask for."""
    return all([_is_part(modulus, kind_of, sort, part) for sort, part in zip(sorts, parts)])


def _is_part(modulus, kind_of, sort, thing):
    return is_integer(thing, 0, modulus - 1) if sort is None else _is_had(kind_of, sort, thing)


def _is_room(library, f, settings, kind_of, thing):
    most = 0 if settings is None else settings[3]
    if not (is_tuple(thing, 0, most) and all([_is_entry(library, f, settings, kind_of, one) for one in thing])):
        return False
    return len({key for key, arguments, result in thing}) == len(thing)


def _is_entry(library, f, settings, kind_of, thing):
    if not is_tuple(thing, 3, 3):
        return False
    key, arguments, result = thing
    sorts = parameter_sorts(library[2][f])
    if not is_tuple(key, len(sorts), len(sorts)):
        return False
    if not all([_is_key_part(library, sort, settings, kind_of, part) for sort, part in zip(sorts, key)]):
        return False
    right = things_among(sorts, key) if settings[0] == "thing" else ()
    if not (is_tuple(arguments, len(right), len(right)) and all([_is_name(name) for name in arguments])):
        return False
    return arguments == right and _is_result(library, f, settings, kind_of, result)


def _is_key_part(library, sort, settings, kind_of, thing):
    modulus, kinds, functions, exported = library
    if sort is None:
        return is_integer(thing, 0, modulus - 1)
    if settings[0] == "content":
        return _is_content(modulus, kinds, sort, thing)
    if settings[0] == "thing":
        return _is_had(kind_of, sort, thing)
    # With "name" the thing may be long gone, so its name may be one that no thing has.
    return thing is None or _is_name(thing)


def _is_content(modulus, kinds, sort, thing):
    """Whether a thing is a number, or None or a value of a thing, as the sort asks for."""
    if sort is None:
        return is_integer(thing, 0, modulus - 1)
    if thing is None:
        return True
    many = 1 + len(kinds[sort])
    if not (is_tuple(thing, many, many) and is_integer(thing[0], sort, sort)):
        return False
    return all([_is_content(modulus, kinds, field, part) for field, part in zip(kinds[sort], thing[1:])])


def _is_result(library, f, settings, kind_of, thing):
    if not is_tuple(thing, 2, 2):
        return False
    modulus, kinds, functions, exported = library
    parameters, variables, result, body = functions[f]
    if thing[0] == "error":
        return settings[2] == 1 and is_integer(thing[1], 0, GREATEST_ERROR)
    if thing[0] == "number":
        return result is None and is_integer(thing[1], 0, modulus - 1)
    return thing[0] == "thing" and result is not None and _is_had(kind_of, result, thing[1])
