"""Points 3.6 to 3.8: in which order objects are looked at, and what is found."""

import itertools
import random
import unittest

from reaimed.objects import Objects
from reaimed.search import search, search_value

ONE = ("num", 1)
NONE = ("none",)
SEVERAL = ("several",)


def found(holder):
    return ("found", holder, "var", ("num", holder))


def world(*rows, names=()):
    """Objects from 1 on with these parents; those that are named have a slot x with their id."""
    objects = Objects()
    for _ in rows:
        objects.make(())
    for number, parents in enumerate(rows, 1):
        for at, parent in enumerate(parents):
            objects.put(number, "p" + str(at), ("parent", "varparent")[at % 2], ("ref", parent))
    for number in names:
        objects.put(number, "x", "var", ("num", number))
    return objects


def looked_at(objects, starts, name):
    """The order of point 3.6, told by functions that call themselves."""
    row = []

    def look(number):
        if number not in row:
            row.append(number)
            if objects.slot(number, name) is None:
                for parent in objects.parents(number):
                    look(parent)

    for start in starts:
        look(start)
    return tuple(row)


def holders(objects, starts, name):
    """The holders of point 3.8, as a set that grows until nothing is new."""
    reached = set(starts)
    while True:
        more = {parent for number in reached if objects.slot(number, name) is None for parent in objects.parents(number)}
        if more <= reached:
            return {number for number in reached if objects.slot(number, name) is not None}
        reached |= more


class SearchCase(unittest.TestCase):
    def check(self, objects, starts, outcome, *looked):
        before = objects.image()
        self.assertEqual(search(objects, starts, "x"), (outcome, looked))
        if len(starts) == 1:
            self.assertEqual(search_value(objects, ("ref", starts[0]), "x"), (outcome, looked))
        self.assertEqual(objects.image(), before)
        for other in itertools.islice(itertools.permutations(starts), 6):
            self.assertEqual(search(objects, other, "x")[0], outcome)


class TestInterface(SearchCase):
    def test_functions_stand_in_their_file(self):
        self.assertEqual(search.__module__, "reaimed.search")
        self.assertEqual(search_value.__module__, "reaimed.search")

    def test_arguments_can_be_passed_by_name(self):
        objects = Objects()
        self.assertEqual(search(objects=objects, starts=(0,), name="x"), (NONE, (0,)))
        self.assertEqual(search_value(objects=objects, value=("ref", 0), name="x"), (NONE, (0,)))

    def test_example_of_the_document(self):
        objects = world((0,), (0,), (1, 2), names=(0,))
        self.check(objects, (3,), found(0), 3, 1, 0, 2)
        objects.put(2, "x", "var", ("num", 2))
        self.check(objects, (3,), SEVERAL, 3, 1, 0, 2)

    def test_kinds_of_values(self):
        for names in ((), (0,), (0, 1)):
            pair = search(world((0,), (1, 0), names=names), (2,), "x")
            self.assertEqual([part.__class__ for part in (pair, *pair)], [tuple] * 3)


class TestOutcomes(SearchCase):
    def test_none(self):
        self.check(world(()), (1,), NONE, 1)
        self.check(world((0,), (1,)), (2,), NONE, 2, 1, 0)

    def test_found_in_the_object_itself(self):
        self.check(world((0,), names=(1,)), (1,), found(1), 1)
        self.check(world((0,), names=(0, 1)), (1,), found(1), 1)

    def test_found_in_a_parent(self):
        self.check(world((0,), (1,), names=(0,)), (2,), found(0), 2, 1, 0)
        self.check(world((0,), (1,), names=(0, 1)), (2,), found(1), 2, 1)

    def test_several(self):
        self.check(world((), (), (1, 2), names=(1, 2)), (3,), SEVERAL, 3, 1, 2)
        self.check(world((), (), (1, 0, 2), names=(0, 1, 2)), (3,), SEVERAL, 3, 1, 0, 2)

    def test_the_slot_is_that_of_the_holder(self):
        for kind in ("const", "var", "parent", "varparent", "method"):
            for value in (ONE, ("nothing",), ("ref", 1), ("method", 4)):
                objects = world((0,))
                objects.put(0, "x", kind, value)
                self.check(objects, (1,), ("found", 0, kind, value), 1, 0)

    def test_the_name_counts(self):
        objects = world((0,), names=(1,))
        objects.put(0, "y", "const", ONE)
        self.assertEqual(search(objects, (1,), "y"), (("found", 0, "const", ONE), (1, 0)))
        self.assertEqual(search(objects, (1,), "X"), (NONE, (1, 0)))
        self.assertEqual(search(objects, (1,), "lobby"), (("found", 0, "const", ("ref", 0)), (1, 0)))

    def test_a_parent_slot_of_the_name(self):
        objects = world((), ())
        objects.put(1, "x", "parent", ("ref", 2))
        self.check(objects, (1,), ("found", 1, "parent", ("ref", 2)), 1)

    def test_other_slots_lead_nowhere(self):
        objects = world((), names=(0,))
        for kind in ("const", "var", "method"):
            objects.put(1, "y" + kind, kind, ("ref", 0))
        objects.put(1, "z", "parent", ("num", 0))
        objects.put(1, "w", "varparent", ("block", 0))
        self.check(objects, (1,), NONE, 1)


class TestOrder(SearchCase):
    def test_chains(self):
        self.check(world((0,), (1,), (2,), (3,)), (4,), NONE, 4, 3, 2, 1, 0)
        self.check(world((2,), (3,), (4,), (0,)), (1,), NONE, 1, 2, 3, 4, 0)

    def test_parents_in_order_each_with_all_behind_it(self):
        objects = world((2, 3), (4, 5), (6, 7), (), (), (), ())
        self.check(objects, (1,), NONE, 1, 2, 4, 5, 3, 6, 7)
        self.check(world((3, 2), (5, 4), (7, 6), (), (), (), ()), (1,), NONE, 1, 3, 7, 6, 2, 5, 4)

    def test_two_ways_to_one_object(self):
        self.check(world((0,), (0,), (1, 2)), (3,), NONE, 3, 1, 0, 2)
        self.check(world((0,), (0,), (2, 1)), (3,), NONE, 3, 2, 0, 1)
        self.check(world((0,), (1, 0)), (2,), NONE, 2, 1, 0)
        # The nearer way to 1 comes later, and 1 was looked at then.
        self.check(world((), (1,), (2,), (3, 1)), (4,), NONE, 4, 3, 2, 1)
        self.check(world((), (1,), (2,), (1, 3)), (4,), NONE, 4, 1, 3, 2)

    def test_twice_the_same_parent(self):
        self.check(world((0, 0)), (1,), NONE, 1, 0)
        self.check(world((0, 0), names=(0,)), (1,), found(0), 1, 0)
        self.check(world((2, 0, 2), (0,), names=(0,)), (1,), found(0), 1, 2, 0)

    def test_nothing_behind_a_holder_for_its_sake(self):
        objects = world((), (1,), (1,), (2, 3), names=(1, 2))
        self.check(objects, (4,), SEVERAL, 4, 2, 3, 1)
        self.check(world((), (1,), (4,), (2, 3), names=(2,)), (4,), found(2), 4, 2, 3)
        self.check(world((0,), (0,), (1, 2), names=(1,)), (3,), found(1), 3, 1, 2, 0)

    def test_a_search_goes_on_behind_two_holders(self):
        self.check(world((), (), (), (1, 2, 3), names=(1, 2)), (4,), SEVERAL, 4, 1, 2, 3)


class TestRings(SearchCase):
    def test_an_object_that_is_its_own_parent(self):
        self.check(world((1,)), (1,), NONE, 1)
        self.check(world((1, 0, 1), names=(0,)), (1,), found(0), 1, 0)
        self.check(world((1,), names=(1,)), (1,), found(1), 1)

    def test_rings(self):
        objects = world((2,), (3,), (1,))
        self.check(objects, (1,), NONE, 1, 2, 3)
        self.check(objects, (2,), NONE, 2, 3, 1)
        self.check(objects, (3, 1, 2), NONE, 3, 1, 2)

    def test_rings_with_holders(self):
        self.check(world((2,), (3,), (1, 0), names=(0,)), (1,), found(0), 1, 2, 3, 0)
        self.check(world((2,), (3,), (1, 0), names=(2,)), (3,), found(2), 3, 1, 2, 0)
        self.check(world((2, 3), (1, 3), (1, 2, 0), names=(0,)), (1,), found(0), 1, 2, 3, 0)

    def test_all_lead_to_all(self):
        rows = [range(6)] * 5
        self.check(world(*rows), (3,), NONE, 3, 0, 1, 2, 4, 5)
        self.check(world(*rows, names=(0, 5)), (3,), SEVERAL, 3, 0, 1, 2, 4, 5)


class TestStarts(SearchCase):
    def test_none(self):
        self.check(world((), names=(0, 1)), (), NONE)

    def test_several(self):
        self.check(world((0,), (0,)), (2, 1), NONE, 2, 0, 1)
        self.check(world((0,), (0,)), (1, 2), NONE, 1, 0, 2)
        self.check(world((), (), names=(1, 2)), (2, 1), SEVERAL, 2, 1)
        self.check(world((), (), (1,), (2,), names=(2,)), (3, 4), found(2), 3, 1, 4, 2)

    def test_one_that_occurs_twice(self):
        self.check(world((), names=(1,)), (1, 1), found(1), 1)
        self.check(world((0,), (0,)), (1, 2, 1), NONE, 1, 0, 2)

    def test_one_that_was_looked_at_before(self):
        self.check(world((), (1,), names=(1,)), (2, 1), found(1), 2, 1)
        self.check(world((), (1,), names=(1,)), (1, 2), found(1), 1, 2)

    def test_one_that_lies_behind_a_holder(self):
        self.check(world((), (1,), names=(1, 2)), (2, 1), SEVERAL, 2, 1)

    def test_the_starts_stay_as_they_were(self):
        starts = (2, 1)
        search(world((0,), (1,)), starts, "x")
        self.assertEqual(starts, (2, 1))


class TestValues(SearchCase):
    def test_no_references(self):
        objects = world((0,), names=(0, 1))
        for value in (("num", 1), ("num", 0), ("true",), ("false",), ("nothing",), ("method", 1), ("block", 1)):
            self.assertEqual(search_value(objects, value, "x"), (NONE, ()))

    def test_references(self):
        objects = world((0,), names=(0,))
        self.assertEqual(search_value(objects, ("ref", 1), "x"), (found(0), (1, 0)))
        self.assertEqual(search_value(objects, ("ref", 0), "x"), (found(0), (0,)))


class TestLongChains(SearchCase):
    def test_chains(self):
        many = 5000
        objects = world(*[(number - 1,) for number in range(1, many + 1)], names=(0,))
        self.check(objects, (many,), found(0), *range(many, -1, -1))

    def test_rings(self):
        many = 5000
        objects = world(*[(number % many + 1,) for number in range(1, many + 1)])
        self.check(objects, (1,), NONE, *range(1, many + 1))

    def test_many_ways(self):
        # The number of ways doubles with each pair of objects.
        rows = [(), ()]
        for number in range(3, 201, 2):
            rows += [(number - 2, number - 1)] * 2
        objects = world(*rows, names=(2,))
        outcome, looked = search(objects, (len(rows),), "x")
        self.assertEqual(outcome, found(2))
        self.assertEqual(len(looked), len(rows) - 1)
        self.assertEqual(len(set(looked)), len(looked))


class TestByChance(SearchCase):
    def test_small_shapes(self):
        chance = random.Random(11)
        for _ in range(3000):
            rows = [[chance.randrange(6) for _ in range(chance.randrange(4))] for _ in range(5)]
            names = chance.sample(range(6), chance.randrange(4))
            objects = world(*rows, names=names)
            starts = tuple(chance.randrange(6) for _ in range(chance.randrange(4)))
            holding = sorted(holders(objects, starts, "x"))
            outcome = NONE if not holding else found(holding[0]) if len(holding) == 1 else SEVERAL
            self.check(objects, starts, outcome, *looked_at(objects, starts, "x"))


if __name__ == "__main__":
    unittest.main()
