import itertools
import unittest

from keptcalls.errors import NoWorld
from keptcalls.libraries import is_library
from keptcalls.rooms import is_choice
from keptcalls.worlds import renumbered, worlds
from tests import drawn, oracle
from tests.samples import (BOXES, GIVE, INNER, MAKE, MAKE_OUTER, READ, at_path, call, choice_with, library_with, marks, plain,
                           positions, replaced)

KEYS = ("name", "thing", "content")


class TestRenumbered(unittest.TestCase):
    def gives(self, library, slots, choice, world, wanted):
        self.assertEqual((is_library(library), is_choice(library, choice)), (True, True))
        self.assertEqual(renumbered(library, slots, choice, world), wanted)
        self.assertEqual(renumbered(library, slots, choice, wanted), wanted)

    def test_in_the_order_of_the_slots(self):
        library = library_with(MAKE, READ)
        world = ((7, 3), ((3, 0, (1,)), (7, 0, (2,))), ((), ()))
        self.gives(library, (0, 0), (None, None), world, ((0, 1), ((0, 0, (2,)), (1, 0, (1,))), ((), ())))
        world = ((None, 5), ((5, 0, (1,)),), ((), ()))
        self.gives(library, (0, 0), (None, None), world, ((None, 0), ((0, 0, (1,)),), ((), ())))
        world = ((4, 4), ((4, 0, (1,)),), ((), ()))
        self.gives(library, (0, 0), (None, None), world, ((0, 0), ((0, 0, (1,)),), ((), ())))

    def test_at_once_behind_a_thing_those_in_its_fields(self):
        library = library_with(MAKE, kinds=((None,), (0, 0)))
        things = ((1, 1, (9, 2)), (2, 0, (1,)), (5, 0, (2,)), (9, 0, (0,)))
        self.gives(library, (1, 0), (None,), ((1, 5), things, ((),)),
                   ((0, 3), ((0, 1, (1, 2)), (1, 0, (0,)), (2, 0, (1,)), (3, 0, (2,))), ((),)))
        self.gives(library, (0, 1), (None,), ((5, 1), things, ((),)),
                   ((0, 1), ((0, 0, (2,)), (1, 1, (2, 3)), (2, 0, (0,)), (3, 0, (1,))), ((),)))
        self.gives(library, (0, 1), (None,), ((2, 1), things[:2] + things[3:], ((),)),
                   ((0, 1), ((0, 0, (1,)), (1, 1, (2, 0)), (2, 0, (0,))), ((),)))
        self.gives(library, (1,), (None,), ((1,), ((1, 1, (None, 4)), (4, 0, (0,))), ((),)),
                   ((0,), ((0, 1, (None, 1)), (1, 0, (0,))), ((),)))
        self.gives(library, (1,), (None,), ((1,), ((0, 0, (0,)), (1, 1, (0, 0))), ((),)),
                   ((0,), ((0, 1, (1, 1)), (1, 0, (0,))), ((),)))

    def test_entries_function_by_function_first_the_arguments_then_the_result(self):
        library = library_with(GIVE, (2, (0, 0), 0, ()), READ)
        choice = (marks("thing", size=2), marks("thing", size=3), marks("thing"))
        world = ((8,), tuple((name, 0, (name % 3,)) for name in range(1, 9)), (
            (((7,), (7,), ("thing", 6)), ((None,), (), ("thing", None))),
            (((5, 4), (5, 4), ("thing", 7)), ((8, None), (8,), ("thing", 3)), ((None, 2), (2,), ("thing", None))),
            (((1,), (1,), ("number", 2)),)))
        # Met in the order 8, 7, 6, 5, 4, 3, 2, 1.
        self.gives(library, (0,), choice, world, ((0,), tuple((n, 0, ((8 - n) % 3,)) for n in range(8)), (
            (((1,), (1,), ("thing", 2)), ((None,), (), ("thing", None))),
            (((3, 4), (3, 4), ("thing", 1)), ((0, None), (0,), ("thing", 5)), ((None, 6), (6,), ("thing", None))),
            (((7,), (7,), ("number", 2)),))))

    def test_numbers_stay_what_they_are(self):
        library = library_with((2, (None, 0), None, ()), modulus=4)
        world = ((None,), ((1, 0, (3,)), (3, 0, (1,))), (
            (((3, 3), (3,), ("number", 3)), ((1, 3), (3,), ("number", 1)), ((3, 1), (1,), ("number", 0))),))
        self.gives(library, (0,), (marks("thing", size=3),), world, ((None,), ((0, 0, (1,)), (1, 0, (3,))), (
            (((3, 0), (0,), ("number", 3)), ((1, 0), (0,), ("number", 1)), ((3, 1), (1,), ("number", 0))),)))
        world = ((), ((5, 0, (1,)),), ((((1, 5), (5,), ("error", 5)),),))
        self.gives(library, (), (marks("thing", errors=1),), world, ((), ((0, 0, (1,)),), ((((1, 0), (0,), ("error", 5)),),)))

    def test_things_first_met_in_results_and_in_their_fields(self):
        library = library_with(MAKE_OUTER, INNER)
        choice = (marks("content"), marks("content", size=2))
        world = ((2,), ((0, 0, (1,)), (1, 0, (2,)), (2, 0, (0,)), (3, 1, (0, 1))), (
            (((), (), ("thing", 3)),), ((((1, 0, (0, 1)),), (), ("thing", 0)), ((None,), (), ("thing", None)))))
        self.gives(library, (0,), choice, world, ((0,), ((0, 0, (0,)), (1, 1, (0, 2)), (2, 0, (2,)), (3, 0, (1,))), (
            (((), (), ("thing", 1)),), ((((1, 0, (0, 1)),), (), ("thing", 3)), ((None,), (), ("thing", None))))))

    def test_some_key_name_leaves_all_as_it_is(self):
        library = library_with(GIVE, READ)
        world = ((4,), ((3, 0, (1,)), (4, 0, (2,))), ((((4,), (4,), ("thing", 3)),), ()))
        both = (marks("thing"), marks("name"))
        self.gives(library, (0,), both, world, world)
        self.gives(library, (0,), both, ((4,), ((3, 0, (1,)), (4, 0, (2,))), ((((4,), (4,), ("thing", 3)),), (((9,), (), ("number", 0)),))),
                   ((4,), ((3, 0, (1,)), (4, 0, (2,))), ((((4,), (4,), ("thing", 3)),), (((9,), (), ("number", 0)),))))
        self.gives(library, (0,), (marks("thing"), marks("content")), world,
                   ((0,), ((0, 0, (2,)), (1, 0, (1,))), ((((0,), (0,), ("thing", 1)),), ())))
        self.gives(library, (0,), (marks("thing"), None), world,
                   ((0,), ((0, 0, (2,)), (1, 0, (1,))), ((((0,), (0,), ("thing", 1)),), ())))

    def test_worlds_that_are_renumbered_stay_as_they_are(self):
        for seed, (library, slots, choice) in enumerate(drawn.cases(300, 200)):
            history = drawn.history_of(seed, library, slots, 25)
            for made in ((None,) * len(choice), choice):
                world = renumbered(library, slots, made, worlds(library, slots, history, made)[1])
                self.assertEqual(renumbered(library, slots, made, world), world)
                if not any(settings and settings[0] == "name" for settings in made):
                    self.assertEqual([thing[0] for thing in world[1]], list(range(len(world[1]))))

    def test_other_names_give_the_same_world(self):
        for seed, (library, slots, choice) in enumerate(drawn.cases(500, 200)):
            choice = tuple(settings and ("thing",) + settings[1:] for settings in choice)
            teller = oracle.teller_behind(library, slots, drawn.history_of(seed, library, slots, 25), choice)[0]
            others = {thing: 3 * number + 2 for number, thing in enumerate(teller.there[::-1])}
            world = teller.world(others)
            self.assertEqual(renumbered(library, slots, choice, world), teller.renumbered())
            self.assertEqual([name for name, kind, fields in world[1]], sorted(others.values()))

    def test_a_world_that_no_history_leads_to(self):
        # No function makes things of kind 1.
        self.gives(library_with(MAKE, READ, kinds=((None,), (None,))), (1,), (None, None), ((6,), ((6, 1, (1,)),), ((), ())),
                   ((0,), ((0, 1, (1,)),), ((), ())))


class FormTest(unittest.TestCase):
    library = library_with(GIVE, (2, (None, 1), 1, ()), READ)
    slots = (1, 0)
    choice = (marks("thing", size=2), marks("content", errors=1, size=3), None)
    things = ((0, 0, (2,)), (2, 1, (1, 0)), (3, 1, (0, None)), (5, 0, (1,)))
    rooms = ((((0,), (0,), ("thing", 5)), ((None,), (), ("thing", None))),
             (((2, (1, 0, (0, 1))), (), ("thing", 2)), ((0, None), (), ("error", 9))), ())
    world = ((3, None), things, rooms)

    def refuses(self, *some):
        for world in some:
            with self.assertRaises(NoWorld, msg=world) as caught:
                renumbered(self.library, self.slots, self.choice, world)
            self.assertIs(type(caught.exception), NoWorld)

    def accepts(self, *some):
        for world in some:
            renumbered(self.library, self.slots, self.choice, world)

    def with_held(self, *held):
        return (held, self.things, self.rooms)

    def with_things(self, *things):
        return ((3, None), things, self.rooms)

    def with_rooms(self, *rooms):
        return ((3, None), self.things, rooms)

    def with_entry(self, f, entry):
        """The world with another last entry of a room."""
        return self.with_rooms(*[room[:1] + (entry,) if g == f else room for g, room in enumerate(self.rooms)])


class TestForm(FormTest):
    def test_the_right_one(self):
        self.accepts(self.world)
        self.assertEqual(renumbered(self.library, self.slots, self.choice, self.world), (
            (0, None), ((0, 1, (0, None)), (1, 0, (2,)), (2, 0, (1,)), (3, 1, (1, 1))),
            ((((1,), (1,), ("thing", 2)), ((None,), (), ("thing", None))),
             (((2, (1, 0, (0, 1))), (), ("thing", 3)), ((0, None), (), ("error", 9))), ())))

    def test_things_that_are_nothing_of_the_kind(self):
        self.refuses(None, True, False, 0, 1, "", "world", (), [], {}, (None,) * 3, ((), (), ()), 10 ** 20, (0,) * 2000,
                     list(self.world), self.world[:2], self.world + ((),), {self.world: 0}, (self.world,), [self.world])

    def test_slots(self):
        self.accepts(self.with_held(3, None), self.with_held(3, 0), self.with_held(3, 5))
        self.refuses(self.with_held(), self.with_held(3), self.with_held(3, None, None), self.with_held(3, 4),
                     self.with_held(3, 3), self.with_held(0, None), self.with_held(3, -1), self.with_held(3, 10 ** 20),
                     self.with_held(3, False), self.with_held(3, "0"), self.with_held(3, (0,)), self.with_held(3, [0]),
                     self.with_held((3, None)), ([3, None],) + self.world[1:], (None,) + self.world[1:],
                     ({3: None},) + self.world[1:])
        # Nothing else has thing 3, so it is not alive if the slot has it not.
        self.refuses(self.with_held(None, None), self.with_held(None, 5), self.with_held(2, None))

    def test_things_ascending_and_once(self):
        a, b, c, d = self.things
        for some in itertools.permutations(self.things):
            (self.accepts if some == self.things else self.refuses)(self.with_things(*some))
        self.refuses(self.with_things(a, a, b, c, d), self.with_things(a, b, c, d, d), self.with_things(a, (0, 0, (1,)), b, c, d),
                     self.with_things(a, b, c, (3, 0, (1,)), d))

    def test_things_of_other_forms(self):
        a, b, c, d = self.things
        for thing in (None, 5, (), (5,), (5, 0), (5, 0, 1), (5, 0, [1]), [5, 0, (1,)], (5, 0, ()), (5, 0, (1, 1)), (5, 0, (3,)),
                      (5, 0, (-1,)), (5, 0, (None,)), (5, 0, (True,)), (5, 0, ("1",)), (5, 0, ((1,),)), (5, 0, (1,), ()),
                      (5, None, (1,)), (5, False, (1,)), (5, 2, (1,)), (5, -1, (1,)), (5, "0", (1,)), ("5", 0, (1,)),
                      (None, 0, (1,)), ((5,), 0, (1,)), ([5], 0, (1,)), ({}, 0, (1,)), (5, 0, {}), (5, [], (1,)), {5: 0}):
            self.refuses(self.with_things(a, b, c, thing))
        self.refuses((self.world[0], list(self.things), self.rooms), (self.world[0], None, self.rooms),
                     (self.world[0], {5: 0}, self.rooms), (self.world[0], 4, self.rooms))
        for thing in ((3, 1, (0,)), (3, 1, (None, 0)), (3, 1, (3, None)), (3, 1, (0, 3)), (3, 1, (0, 4)), (3, 1, (0, 2)),
                      (3, 1, (0, True)), (3, 1, (False, None)), (3, 1, (0, False)), (3, 1, (0, "0")), (3, 1, (0, -1))):
            self.refuses(self.with_things(a, b, thing, d))
        for thing in ((3, 1, (2, None)), (3, 1, (0, 5)), (3, 1, (1, 0))):
            self.accepts(self.with_things(a, b, thing, d))

    def test_names_are_integers_from_0_on(self):
        library = library_with(MAKE)
        for name in (0, 1, 59, 2000, 10 ** 20):
            self.assertEqual(renumbered(library, (0,), (None,), ((name,), ((name, 0, (1,)),), ((),))),
                             ((0,), ((0, 0, (1,)),), ((),)))
        for name in (-1, True, False, "0", (0,), None):
            with self.assertRaises(NoWorld):
                renumbered(library, (0,), (None,), ((name,), ((name, 0, (1,)),), ((),)))

    def test_things_of_another_kind(self):
        a, b, c, d = self.things
        self.refuses(self.with_things(a, b, c, (5, 1, (1, None))), self.with_things((0, 1, (2, None)), b, c, d),
                     self.with_things(a, b, (3, 0, (0,)), d), self.with_things(a, (2, 0, (1,)), c, d))

    def test_all_things_are_alive(self):
        a, b, c, d = self.things
        self.refuses(self.with_things(a, b, c, d, (6, 0, (0,))), self.with_things(a, b, c, d, (6, 1, (0, 5))))
        # A thing that is had only by one that nothing has is not alive either.
        self.refuses(self.with_things(a, b, c, d, (6, 1, (0, 7)), (7, 0, (0,))))
        self.accepts(((3, 7), self.things + ((7, 0, (0,)),), self.rooms))

    def test_rooms_are_tuples_one_for_each_function(self):
        x, y, z = self.rooms
        self.refuses(self.with_rooms(), self.with_rooms(x, y), self.with_rooms(x, y, z, ()), self.with_rooms(x, y, None),
                     self.with_rooms(x, y, []), self.with_rooms(x, list(y), z), self.with_rooms(x, None, z),
                     ((3, None), self.things, list(self.rooms)), ((3, None), self.things, None),
                     ((3, None), self.things, {0: x, 1: y, 2: z}), ((3, None), self.things, "xyz"))

    def test_a_plain_function_has_no_entries(self):
        x, y, z = self.rooms
        self.refuses(self.with_rooms(x, y, (((0,), (0,), ("number", 2)),)), self.with_rooms(x, y, (((0,), (), ("number", 2)),)),
                     self.with_rooms(x, y, (None,)), self.with_rooms(x, y, ((),)))

    def test_entries_more_than_size(self):
        x, y, z = self.rooms
        self.refuses(self.with_rooms(x + (((5,), (5,), ("thing", 0)),), y, z))
        self.accepts(self.with_rooms(x, y + (((1, None), (), ("error", 0)),), z))
        self.refuses(self.with_rooms(x, y + (((1, None), (), ("error", 0)), ((2, None), (), ("error", 0))), z))
        for size in (1, 2, 3):
            library = library_with((1, (None,), None, ()), modulus=4)
            for many in range(5):
                world = ((), (), (tuple(((n,), (), ("number", 0)) for n in range(many)),))
                if many <= size:
                    self.assertEqual(renumbered(library, (), (marks("content", size=size),), world), world)
                else:
                    with self.assertRaises(NoWorld):
                        renumbered(library, (), (marks("content", size=size),), world)

    def test_two_entries_with_equal_keys(self):
        x, y, z = self.rooms
        self.refuses(self.with_entry(0, x[0]), self.with_entry(0, ((0,), (0,), ("thing", 0))), self.with_entry(1, y[0]),
                     self.with_rooms(x, y + (((0, None), (), ("error", 8)),), z))

    def test_entries_of_other_forms(self):
        for f in (0, 1):
            right = self.rooms[f][1]
            self.accepts(self.with_entry(f, right))
            self.refuses(*[self.with_entry(f, entry) for entry in (
                None, 0, (), right[:2], right + (None,), list(right), right[::-1], {0: right}, "key")])
            for at in range(3):
                self.refuses(*[self.with_entry(f, right[:at] + (other,) + right[at + 1:])
                               for other in (None, 0, True, "", [], {}, list(right[at]), (right[at],))])


class TestEntries(FormTest):
    def test_keys_with_thing(self):
        self.accepts(self.with_entry(0, ((5,), (5,), ("thing", 0))))
        self.refuses(*[self.with_entry(0, (key, key, ("thing", None))) for key in (
            (), (5, 5), (2,), (4,), (-1,), (True,), ("5",), ((5,),), ([5],), ((0, 1),))])

    def test_arguments_with_thing(self):
        self.refuses(*[self.with_entry(0, ((5,), arguments, ("thing", None))) for arguments in (
            (), (0,), (5, 5), (5, 0), [5], 5, None, (None,), ("5",), ((5,),), {5: 5})])
        self.refuses(*[self.with_entry(0, ((None,), arguments, ("thing", None))) for arguments in ((0,), (None,), [], None)])
        library = library_with((2, (0, 0), None, ()), (2, (None, 0), None, ()))
        choice = (marks("thing"), marks("thing"))
        things = ((0, 0, (0,)), (1, 0, (0,)))
        rooms = ((((1, 0), (1, 0), ("number", 0)),), (((1, 1), (1,), ("number", 0)),))
        renumbered(library, (0, 0), choice, ((0, 1), things, rooms))
        for f, arguments in ((0, (0, 1)), (0, (1,)), (0, (0,)), (0, (True, False)), (0, (1, False)), (1, (1, 1)), (1, ()),
                             (1, (0,)), (1, (True,))):
            other = replaced(rooms, (f, 0, 1), arguments)
            with self.assertRaises(NoWorld, msg=arguments):
                renumbered(library, (0, 0), choice, ((0, 1), things, other))

    def test_a_thing_that_is_both_arguments(self):
        library = library_with((2, (0, 0), None, ()))
        world = ((0,), ((0, 0, (0,)),), ((((0, 0), (0, 0), ("number", 0)),),))
        self.assertEqual(renumbered(library, (0,), (marks("thing"),), world), world)
        for arguments in ((0,), (), (0, 0, 0)):
            with self.assertRaises(NoWorld):
                renumbered(library, (0,), (marks("thing"),), replaced(world, (2, 0, 0, 1), arguments))

    def test_keys_with_content(self):
        self.accepts(*[self.with_entry(1, (key, (), ("error", 1))) for key in (
            (0, (1, 2, None)), (2, (1, 0, (0, 2))), (1, (1, 0, (0, 1))))])
        self.refuses(*[self.with_entry(1, (key, (), ("error", 1))) for key in (
            (), (0,), (0, None, None), (3, None), (-1, None), (True, None), (False, None), (None, None), ("0", None),
            (0, 3), (0, 0), (0, True), (0, ()), (0, (1,)), (0, (1, 0)), (0, (1, 0, None, None)), (0, (0, 0)),
            (0, (0, 0, None)), (0, (True, 0, None)), (0, (2, 0, None)), (0, (1, 3, None)), (0, (1, None, None)),
            (0, (1, True, None)), (0, (1, 0, 0)), (0, (1, 0, 5)), (0, (1, 0, ())), (0, (1, 0, (0,))), (0, (1, 0, (0, 3))),
            (0, (1, 0, (False, 1))), (0, (1, 0, (0, False))), (0, (1, 0, (1, 0, None))), (0, (1, 0, (0, 0, 0))),
            (0, [1, 0, None]), (0, (1, 0, [0, 1])), [0, None], (0, {}), (0, "1"))])

    def test_no_arguments_with_content_and_with_name(self):
        self.refuses(*[self.with_entry(1, ((0, None), arguments, ("error", 1))) for arguments in ((2,), (None,), [], None, 0)])
        library = library_with(READ)
        for arguments in ((0,), [], None, ((),), 0, {}):
            with self.assertRaises(NoWorld):
                renumbered(library, (0,), (marks("name"),), ((0,), ((0, 0, (0,)),), ((((0,), arguments, ("number", 0)),),)))

    def test_keys_with_name(self):
        library = library_with((2, (None, 0), None, ()))
        choice = (marks("name"),)
        for name in (None, 0, 1, 77, 10 ** 20):
            # The name is one that a thing had; no thing needs to have it now.
            world = ((), (), ((((2, name), (), ("number", 1)),),))
            self.assertEqual(renumbered(library, (), choice, world), world)
        for key in ((0, -1), (0, True), (0, "0"), (0, (0, 0)), (0, [0]), (3, 0), (None, 0), (True, 0), (0,), (0, 0, 0), ()):
            with self.assertRaises(NoWorld, msg=key):
                renumbered(library, (), choice, ((), (), (((key, (), ("number", 1)),),)))

    def test_the_form_is_looked_at_with_the_key_name_too(self):
        library = library_with(MAKE)
        world = ((3,), ((3, 0, (2,)),), ((((), (), ("thing", 3)),),))
        self.assertEqual(renumbered(library, (0,), (marks("name"),), world), world)
        for path in positions(world):
            for other in (None, "", 9, [], True):
                # A slot and a result may be EMPTY.
                if other is None and path in ((0, 0), (2, 0, 0, 2, 1)):
                    continue
                with self.assertRaises(NoWorld, msg=(path, other)):
                    renumbered(library, (0,), (marks("name"),), replaced(world, path, other))

    def test_results_of_things(self):
        key = ((5,), (5,))
        self.accepts(*[self.with_entry(0, key + (result,)) for result in (("thing", 0), ("thing", 5), ("thing", None))])
        self.refuses(*[self.with_entry(0, key + (result,)) for result in (
            ("thing", 2), ("thing", 4), ("thing", -1), ("thing", True), ("thing", "0"), ("thing", (0,)), ("thing",),
            ("thing", 0, 0), ("number", 0), ("number", None), ("error", 0), ("error", None), ("Thing", 0), (None, 0), (0, 0),
            ["thing", 0], ("thing", [0]), (["thing"], 0), (True, 0), "thing", None, (), {"thing": 0})])

    def test_results_of_numbers(self):
        library = library_with((0, (), None, ()))
        for result in (("number", 0), ("number", 1), ("number", 2)):
            world = ((), (), ((((), (), result),),))
            self.assertEqual(renumbered(library, (), (marks("thing"),), world), world)
        for result in (("number", 3), ("number", -1), ("number", True), ("number", None), ("number", "0"), ("thing", None),
                       ("thing", 0), ("error", 0), ("number",), ("number", 0, 0), ("number", (0,))):
            with self.assertRaises(NoWorld, msg=result):
                renumbered(library, (), (marks("thing"),), ((), (), ((((), (), result),),)))

    def test_errors_as_the_settings_say(self):
        library = library_with((0, (), None, ()))
        for e in range(-1, 12):
            world = ((), (), ((((), (), ("error", e)),),))
            for errors in (0, 1):
                if errors == 1 and 0 <= e <= 9:
                    self.assertEqual(renumbered(library, (), (marks("thing", errors=1),), world), world)
                else:
                    with self.assertRaises(NoWorld):
                        renumbered(library, (), (marks("thing", errors=errors),), world)
        for e in (None, True, False, "0", (0,), 10 ** 20):
            with self.assertRaises(NoWorld):
                renumbered(library, (), (marks("thing", errors=1),), ((), (), ((((), (), ("error", e)),),)))

    def test_a_list_for_a_tuple_at_any_place(self):
        for path in positions(self.world):
            here = at_path(self.world, path)
            if isinstance(here, tuple):
                self.refuses(replaced(self.world, path, list(here)))
            if isinstance(here, int):
                self.refuses(replaced(self.world, path, here == 1))

    def test_a_world_of_other_settings(self):
        history = [call(0, k=0), call(1, 0, k=1), call(2, 1), call(2, 1)]
        made = {key: worlds(BOXES, (1, 0), history, choice_with(BOXES, f2=marks(key)))[1] for key in KEYS}
        for key, world in made.items():
            for other in KEYS:
                choice = choice_with(BOXES, f2=marks(other))
                if key == other:
                    renumbered(BOXES, (1, 0), choice, world)
                else:
                    with self.assertRaises(NoWorld, msg=(key, other)):
                        renumbered(BOXES, (1, 0), choice, world)
            with self.assertRaises(NoWorld):
                renumbered(BOXES, (1, 0), plain(BOXES), world)

    def test_all_worlds_behind_histories_have_the_form(self):
        for seed, (library, slots, choice) in enumerate(drawn.cases(800, 300, 5)):
            history = drawn.history_of(seed, library, slots, 30)
            plainly, marked = worlds(library, slots, history, choice)
            renumbered(library, slots, choice, marked)
            renumbered(library, slots, plain(library), plainly)
            renumbered(library, slots, choice, plainly)
