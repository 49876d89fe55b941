"""The cheapest safe choices, with what bars all cheaper ones."""

from keptcalls.comparing import check_limit, compare
from keptcalls.errors import NoFunction, NoMenu, NoPrices
from keptcalls.libraries import is_integer, is_tuple
from keptcalls.rooms import all_fields, check_choice, is_settings
from keptcalls.users import check_slots

MOST_OFFERS = 4
MOST_CHOICES = 32
GREATEST_PRICE = 99


def best(library, slots, menu, limit):
    """The cheapest safe choices of a menu, as [12] says."""
    check_slots(library, slots)
    if not _is_menu(library, menu):
        raise NoMenu("this is no menu for the library")
    check_limit(limit)
    rows = [(0, ())]
    for offers in menu:
        rows = [(price + more, choice + (settings,)) for price, choice in rows for settings, more in offers]
    order = sorted([(price, at) for at, (price, choice) in enumerate(rows)])
    return _cheapest(library, slots, [rows[at] for price, at in order], limit)


def cheapest_clears(library, slots, choice, f, prices, limit):
    """The same for the choices in which f has other clears, as [13] says."""
    check_slots(library, slots)
    check_choice(library, choice)
    if not (is_integer(f, 0, len(choice) - 1) and choice[f] is not None):
        raise NoFunction("this is no function that is not plain")
    if not _are_prices(library, prices):
        raise NoPrices("these are no prices of the library's fields")
    check_limit(limit)
    order = sorted([(sum([prices[one] for one in some]), len(some), some) for some in _all_clears(library)])
    rows = [(price, choice[:f] + (choice[f][:4] + (some,),) + choice[f + 1:]) for price, many, some in order]
    return _cheapest(library, slots, rows, limit)


def _cheapest(library, slots, rows, limit):
    """The answer for rows of (price, choice), which are in the order in which they are looked at."""
    least = None
    safe = []
    bars = []
    for price, choice in rows:
        if least is not None and price > least:
            break
        answer = compare(library, slots, choice, limit)
        if answer[0] == "full":
            return ("full", choice)
        if answer[0] == "safe":
            least = price
            safe.append(choice)
        else:
            bars.append((choice, answer[1]))
    if least is None:
        return ("none", bars)
    return ("best", least, safe, bars)


def _is_menu(library, thing):
    modulus, kinds, functions, exported = library
    if not (isinstance(thing, list) and len(thing) == len(functions)):
        return False
    if not all([_are_offers(kinds, offers) for offers in thing]):
        return False
    many = 1
    for offers in thing:
        many = many * len(offers)
    return many <= MOST_CHOICES


def _are_offers(kinds, thing):
    if not (isinstance(thing, list) and 1 <= len(thing) <= MOST_OFFERS):
        return False
    return all([_is_offer(kinds, one) for one in thing]) and len({settings for settings, price in thing}) == len(thing)


def _is_offer(kinds, thing):
    if not (is_tuple(thing, 2, 2) and is_integer(thing[1], 0, GREATEST_PRICE)):
        return False
    return thing[0] is None or is_settings(kinds, thing[0])


def _are_prices(library, thing):
    """Whether a thing has a price for each (kind, field) of the library, and nothing else."""
    fields = all_fields(library[1])
    if not (isinstance(thing, dict) and len(thing) == len(fields)):
        return False
    return all([one in thing and is_integer(thing[one], 0, GREATEST_PRICE) for one in fields])


def _all_clears(library):
    """All ascending tuples of (kind, field) of a library."""
    found = [()]
    for one in all_fields(library[1]):
        found = found + [some + (one,) for some in found]
    return found
