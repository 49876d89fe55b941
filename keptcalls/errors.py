"""The errors of keptcalls; each is made from a text."""


class KeptError(ValueError):
    """What all errors of keptcalls are."""


class NoLibrary(KeptError):
    """What was passed as a library is none."""


class NoSlots(KeptError):
    """What was passed as slots of a library are none."""


class NoHistory(KeptError):
    """What was passed as a history, or as a deed, is none."""


class NoChoice(KeptError):
    """What was passed as a choice, or as settings, is none."""


class NoLimit(KeptError):
    """What was passed as a limit is none."""


class NoMenu(KeptError):
    """What was passed as a menu is none."""


class NoPrices(KeptError):
    """What was passed as prices are none."""


class NoFunction(KeptError):
    """What was passed as the number of a function is none that is allowed there."""


class NoNumber(KeptError):
    """What was passed as a number is none that is allowed there."""


class NoWorld(KeptError):
    """What was passed as a world has not the form of one."""


class NoWay(KeptError):
    """A deed behind the last one that a user may do."""
