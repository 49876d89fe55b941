"""A second account of keepers: what was done is kept as a list, and is told anew from its beginning each time."""

from tests.oracle import Teller


class Slow:
    def __init__(self, library, slots, choice, events=()):
        self.first = (library, slots, choice)
        self.events = list(events)
        self.saves = []

    def other(self):
        """One that has done the same, without savepoints."""
        return Slow(*self.first, self.events)

    def teller(self):
        """The teller behind all that was done, and what the deeds told."""
        teller = Teller(*self.first)
        tellings = []
        for event in self.events:
            if event[0] == "deed":
                tellings.append(teller.do(event[1])[0])
            else:
                teller.give(*event[1:])
        return teller, tellings

    def do(self, history):
        """Do some deeds, and return what they tell."""
        self.events += [("deed", deed) for deed in history]
        tellings = self.teller()[1]
        return tellings[len(tellings) - len(history):]

    def give(self, f, settings):
        self.events.append(("give", f, settings))

    def choose(self, choice):
        before = self.teller()[0].choice
        for f, settings in enumerate(choice):
            if settings != before[f]:
                self.give(f, settings)

    def save(self):
        self.saves.append(list(self.events))
        return len(self.saves) - 1

    def back(self, number):
        self.events = list(self.saves[number])
        del self.saves[number + 1:]

    def look(self):
        """(number of deeds, hits, choice, world, keys of each room)."""
        teller, tellings = self.teller()
        world = teller.world()
        return (len(tellings), teller.hits_of, teller.choice, world, [[entry[0] for entry in room] for room in world[2]])
