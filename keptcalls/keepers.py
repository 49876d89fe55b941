"""Keepers: users who go on deed by deed, who change their settings, and who go back to where they stood."""

from keptcalls.doing import User
from keptcalls.errors import NoChoice, NoFunction, NoHistory, NoNumber, NoWay, NoWorld
from keptcalls.libraries import is_integer, is_tuple
from keptcalls.rooms import check_choice, is_settings
from keptcalls.users import MOST_DEEDS, check_history, check_slots, is_deed
from keptcalls.worlds import is_world


class Stretch:
    """Where a keeper stood at the beginning of a "with", its savepoints then, and the stretch around this one."""

    def __init__(self, now, saves, around):
        self.now = now
        self.saves = saves
        self.around = around


class Keeper:
    """A user of a library with a choice who goes on deed by deed."""

    def __init__(self, library, slots, *, choice):
        check_slots(library, slots)
        check_choice(library, choice)
        self.library = library
        self.slots = slots
        # Where it stands: the deeds done, the hits of each function, the choice, the world. It is only ever replaced,
        # never changed, so that savepoints and stretches may keep it.
        self.now = ((), (0,) * len(choice), choice, User(library, slots, choice).world())
        self.saves = ()
        self.stretch = None

    @classmethod
    def of(cls, library, slots, choice, history):
        """A keeper that has done a history."""
        keeper = cls(library, slots, choice=choice)
        check_history(library, slots, history)
        keeper.do(*history)
        return keeper

    @classmethod
    def at(cls, library, slots, choice, world):
        """A keeper that stands in a world, without deeds."""
        keeper = cls(library, slots, choice=choice)
        if not is_world(library, slots, choice, world):
            raise NoWorld("this has not the form of a world")
        keeper.now = keeper.now[:3] + (world,)
        return keeper

    @staticmethod
    def free(names):
        """The least integer from 0 on that is not among names."""
        name = 0
        while name in names:
            name += 1
        return name

    def __call__(self, deed):
        return self.do(deed)[0]

    def do(self, *some):
        """Do some deeds, and return the list of what they tell."""
        if not all([is_deed(self.library, self.slots, deed) for deed in some]):
            raise NoHistory("this is no deed of a user with these slots")
        return self._go(some)

    def __iadd__(self, other):
        check_history(self.library, self.slots, other)
        self._go(other)
        return self

    def on(self, history):
        """A new keeper, without savepoints, that has gone on from here."""
        check_history(self.library, self.slots, history)
        other = Keeper(self.library, self.slots, choice=self.choice)
        other.now = self.now
        other.do(*history)
        return other

    def _go(self, some):
        """Do what surely are deeds, and return the list of what they tell."""
        done, counts, choice, world = self.now
        if len(done) + len(some) > MOST_DEEDS:
            raise NoWay("no user does more deeds than a history has")
        user = User(self.library, self.slots, choice)
        user.stand(world)
        user.hit_counts = list(counts)
        tellings = [user.act(deed) for deed in some]
        self.now = (done + tuple(some), tuple(user.hit_counts), choice, user.world())
        return tellings

    def __getitem__(self, at):
        self._check_function(at)
        held, things, rooms = self.now[3]
        return [key for key, arguments, result in rooms[at]]

    # Without this, Python would iterate over a keeper by its items.
    def __iter__(self):
        raise TypeError("a keeper is not iterated")

    def __setitem__(self, at, worth):
        self._check_function(at)
        if not (worth is None or is_settings(self.library[1], worth)):
            raise NoChoice("these are no settings of the function")
        self._mark(at, worth)

    def _check_function(self, f):
        if not is_integer(f, 0, len(self.library[2]) - 1):
            raise NoFunction("this is no function of the library")

    def _mark(self, f, settings):
        """Give a function what surely are settings, or None; its room is emptied."""
        done, counts, choice, world = self.now
        held, things, rooms = world
        choice = choice[:f] + (settings,) + choice[f + 1:]
        user = User(self.library, self.slots, choice)
        user.stand((held, things, rooms[:f] + ((),) + rooms[f + 1:]))
        user.remove_the_dead()
        self.now = (done, counts, choice, user.world())

    @property
    def choice(self):
        """The choice; who sets it gives other settings to each function whose settings are other ones than before."""
        return self.now[2]

    @choice.setter
    def choice(self, value):
        check_choice(self.library, value)
        before = self.now[2]
        for f in range(len(value)):
            if value[f] != before[f]:
                self._mark(f, value[f])

    def __contains__(self, x):
        return is_tuple(x, 2, 2) and self.has(x[0], x[1])

    def has(self, f, key):
        """Whether function f's room has an entry with this key."""
        held, things, rooms = self.now[3]
        if not is_integer(f, 0, len(rooms) - 1):
            return False
        return any([_is_just(key, known) for known, arguments, result in rooms[f]])

    def __len__(self):
        return len(self.now[0])

    def hits(self):
        """The list of the numbers of hits of each function."""
        return list(self.now[1])

    def world(self):
        """The world, as it is."""
        return self.now[3]

    def __eq__(self, other):
        if not isinstance(other, Keeper):
            return False
        return (self.library, self.slots, self.now[2:]) == (other.library, other.slots, other.now[2:])

    def within(self, other):
        """Whether each key of a room is in the same function's room of another keeper of this library and slots."""
        if not (isinstance(other, Keeper) and (self.library, self.slots) == (other.library, other.slots)):
            return False
        return all([other.has(f, key) for f in range(len(self.library[2])) for key in self[f]])

    def save(self):
        """Make a savepoint, and return its number."""
        self.saves = self.saves + (self.now,)
        return len(self.saves) - 1

    def back(self, number):
        """Go back to a savepoint, keeping this one and those before."""
        if not is_integer(number, 0, len(self.saves) - 1):
            raise NoNumber("this is no savepoint")
        self.now = self.saves[number]
        self.saves = self.saves[:number + 1]

    def __enter__(self):
        self.stretch = Stretch(self.now, self.saves, self.stretch)
        return self

    def __exit__(self, kind, value, trace):
        self.now = self.stretch.now
        self.saves = self.stretch.saves
        self.stretch = self.stretch.around


def trial(keeper, history):
    """What the deeds of a history would tell, and the world behind them; the keeper is left as it was."""
    check_history(keeper.library, keeper.slots, history)
    with keeper:
        return (keeper.do(*history), keeper.world())


def choose(keeper, choice):
    """Give the keeper other settings of each function whose settings are other ones than before."""
    keeper.choice = choice


def _is_just(thing, known):
    """Whether a thing is just this key, or part of one: to Python's == True is as good as 1."""
    if isinstance(known, tuple):
        many = len(known)
        return is_tuple(thing, many, many) and all([_is_just(one, part) for one, part in zip(thing, known)])
    return thing is None if known is None else is_integer(thing, known, known)
