"""Part 5: rows, shapes and their numbers, ways between them, places and parents."""

import random
import unittest

from reaimed.objects import KINDS
from reaimed.shapes import FIXED, Shapes, row_of
from values import kinds_in

ONE = ("num", 1)
TWO = ("num", 2)
NOTHING = ("nothing",)
LOBBY = ("ref", 0)


class TestInterface(unittest.TestCase):
    def test_names(self):
        self.assertEqual(FIXED, ("const", "method", "parent"))
        self.assertEqual(row_of.__module__, "reaimed.shapes")
        self.assertEqual(Shapes.__module__, "reaimed.shapes")
        for name in ("shape_of", "row", "count", "put", "drop", "place", "parents", "free_parents"):
            self.assertIn(name, vars(Shapes))

    def test_arguments_can_be_passed_by_name(self):
        shapes = Shapes()
        shape = shapes.shape_of(slots=(("x", "const", ONE),))
        self.assertEqual(shapes.row(shape=shape), row_of(slots=(("x", "const", ONE),)))
        self.assertEqual(shapes.put(shape=0, name="x", kind="const", value=ONE), shape)
        self.assertEqual(shapes.drop(shape=shape, name="x"), 0)
        self.assertEqual(shapes.place(shape=shape, name="x"), 0)
        self.assertEqual(shapes.parents(shape=shape), ())
        self.assertEqual(shapes.free_parents(shape=shape), ())

    def test_kinds_of_values(self):
        shapes = Shapes()
        shape = shapes.shape_of((("x", "var", ONE), ("p", "varparent", LOBBY)))
        for value in (shape, shapes.count(), shapes.place(shape, "x"), shapes.place(shape, "q"), shapes.ways_used,
                      shapes.put(shape, "x", "var", ONE), shapes.drop(shape, "q")):
            self.assertEqual(value.__class__, int)
        for value in (shapes.row(shape), shapes.parents(shape), shapes.free_parents(shape)):
            self.assertEqual(value.__class__, tuple)
        self.assertLessEqual(kinds_in(shapes.row(shape)), {tuple, str, int, None.__class__})

    def test_two_shapes_are_apart(self):
        one, other = Shapes(), Shapes()
        one.put(0, "x", "var", ONE)
        one.put(0, "x", "var", ONE)
        self.assertEqual((one.count(), one.ways_used), (2, 1))
        self.assertEqual((other.count(), other.ways_used), (1, 0))
        self.assertEqual(other.put(0, "y", "var", ONE), 1)
        self.assertEqual(one.row(1), (("x", "var", None),))
        self.assertEqual(other.row(1), (("y", "var", None),))


class TestRows(unittest.TestCase):
    def test_fixed_values_stay(self):
        for kind in KINDS:
            for value in (ONE, NOTHING, LOBBY, ("method", 1), ("block", 2)):
                kept = value if kind in ("const", "method", "parent") else None
                self.assertEqual(row_of((("x", kind, value),)), (("x", kind, kept),))

    def test_order_stays(self):
        slots = (("b", "var", ONE), ("a", "const", TWO), ("c", "varparent", LOBBY), ("p", "parent", LOBBY))
        self.assertEqual(row_of(slots), (
            ("b", "var", None), ("a", "const", TWO), ("c", "varparent", None), ("p", "parent", LOBBY)))
        self.assertEqual(row_of(()), ())

    def test_the_slots_stay_as_they_were(self):
        slots = (("b", "var", ONE),)
        row_of(slots)
        self.assertEqual(slots, (("b", "var", ONE),))


class TestNumbers(unittest.TestCase):
    def test_the_empty_row_has_the_first_number(self):
        shapes = Shapes()
        self.assertEqual((shapes.count(), shapes.row(0), shapes.ways_used), (1, (), 0))
        self.assertEqual(shapes.shape_of(()), 0)
        self.assertEqual(shapes.count(), 1)

    def test_numbers_in_order(self):
        shapes = Shapes()
        rows = [(("x", "var", ONE),), (("y", "var", ONE),), (("x", "var", ONE), ("y", "var", ONE))]
        self.assertEqual([shapes.shape_of(slots) for slots in rows], [1, 2, 3])
        self.assertEqual([shapes.shape_of(slots) for slots in rows[::-1]], [3, 2, 1])
        self.assertEqual(shapes.put(0, "z", "const", ONE), 4)
        self.assertEqual(shapes.shape_of((("w", "const", ONE),)), 5)
        self.assertEqual(shapes.drop(3, "y"), 1)
        self.assertEqual(shapes.count(), 6)
        self.assertEqual(shapes.shape_of((("z", "const", ONE),)), 4)

    def same(self, one, other):
        shapes = Shapes()
        first, second = shapes.shape_of(one), shapes.shape_of(other)
        self.assertEqual(first, 1)
        self.assertEqual(shapes.row(first), row_of(one))
        self.assertEqual(shapes.row(second), row_of(other))
        self.assertEqual(shapes.count(), 2 if first == second else 3)
        return first == second

    def test_equal_shapes(self):
        self.assertTrue(self.same((("x", "var", ONE),), (("x", "var", TWO),)))
        self.assertTrue(self.same((("x", "varparent", LOBBY),), (("x", "varparent", ("ref", 1)),)))
        self.assertTrue(self.same((("x", "const", ("num", 12345)),), (("x", "const", ("num", int("12345"))),)))

    def test_unequal_shapes(self):
        for kind in FIXED:
            self.assertFalse(self.same((("x", kind, ONE),), (("x", kind, TWO),)))
            self.assertFalse(self.same((("x", kind, ("ref", 1)),), (("x", kind, ("num", 1)),)))
        for kind in KINDS:
            for other in KINDS:
                self.assertEqual(self.same((("x", kind, ONE),), (("x", other, ONE),)), kind == other)
        self.assertFalse(self.same((("x", "var", ONE),), (("y", "var", ONE),)))
        self.assertFalse(self.same((("x", "var", ONE),), (("X", "var", ONE),)))
        x, y = ("x", "var", ONE), ("y", "var", ONE)
        self.assertFalse(self.same((x, y), (y, x)))
        self.assertFalse(self.same((x,), (x, y)))


class TestWays(unittest.TestCase):
    def setUp(self):
        self.shapes = Shapes()

    def used(self, function, *arguments):
        """The result, and how often a way that was remembered was used for it."""
        before = self.shapes.ways_used
        result = function(*arguments)
        return result, self.shapes.ways_used - before

    def test_a_slot_at_the_end(self):
        self.assertEqual(self.used(self.shapes.put, 0, "x", "const", ONE), (1, 0))
        self.assertEqual(self.shapes.row(1), (("x", "const", ONE),))
        self.assertEqual(self.used(self.shapes.put, 1, "y", "var", TWO), (2, 0))
        self.assertEqual(self.shapes.row(2), (("x", "const", ONE), ("y", "var", None)))
        self.assertEqual(self.used(self.shapes.put, 0, "x", "const", ONE), (1, 1))
        self.assertEqual(self.used(self.shapes.put, 1, "y", "var", ONE), (2, 1))
        self.assertEqual(self.shapes.count(), 3)

    def test_a_slot_in_its_place(self):
        start = self.shapes.shape_of((("x", "var", ONE), ("y", "const", ONE), ("z", "parent", LOBBY)))
        for name, kind, value, row in (
                ("x", "const", TWO, (("x", "const", TWO), ("y", "const", ONE), ("z", "parent", LOBBY))),
                ("y", "varparent", TWO, (("x", "var", None), ("y", "varparent", None), ("z", "parent", LOBBY))),
                ("z", "method", TWO, (("x", "var", None), ("y", "const", ONE), ("z", "method", TWO)))):
            shape, used = self.used(self.shapes.put, start, name, kind, value)
            self.assertEqual((self.shapes.row(shape), used), (row, 0))
            self.assertEqual(self.used(self.shapes.put, start, name, kind, value), (shape, 1))

    def test_a_way_back_to_the_same_shape(self):
        start = self.shapes.shape_of((("x", "var", ONE), ("y", "const", ONE)))
        for arguments in ((start, "x", "var", TWO), (start, "y", "const", ONE)):
            self.assertEqual(self.used(self.shapes.put, *arguments), (start, 0))
            self.assertEqual(self.used(self.shapes.put, *arguments), (start, 1))
        self.assertEqual(self.shapes.count(), 2)

    def test_values_count_for_fixed_kinds_alone(self):
        for kind in KINDS:
            shapes = self.shapes = Shapes()
            first, used = self.used(shapes.put, 0, "x", kind, ONE)
            self.assertEqual((first, used), (1, 0))
            second, used = self.used(shapes.put, 0, "x", kind, TWO)
            self.assertEqual((second, used), (2, 0) if kind in FIXED else (1, 1))
            self.assertEqual(self.used(shapes.put, 0, "x", kind, None if kind not in FIXED else ONE), (1, 1))

    def test_each_part_of_a_way_counts(self):
        start = self.shapes.shape_of((("x", "var", ONE),))
        ways = [(shape, name, kind, value) for shape in (0, start) for name in ("x", "y")
                for kind in ("var", "const") for value in ((ONE, TWO) if kind == "const" else (ONE,))]
        for way in ways:
            self.assertEqual(self.used(self.shapes.put, *way)[1], 0, way)
        for way in ways:
            self.assertEqual(self.used(self.shapes.put, *way)[1], 1, way)

    def test_a_way_to_a_shape_that_is_known(self):
        shape = self.shapes.shape_of((("x", "var", ONE),))
        self.assertEqual(self.used(self.shapes.put, 0, "x", "var", ONE), (shape, 0))
        self.assertEqual(self.used(self.shapes.put, 0, "x", "var", ONE), (shape, 1))

    def test_dropping(self):
        x, y, z = ("x", "var", ONE), ("y", "const", ONE), ("z", "parent", LOBBY)
        start = self.shapes.shape_of((x, y, z))
        for name, left in (("x", (y, z)), ("y", (x, z)), ("z", (x, y))):
            shape, used = self.used(self.shapes.drop, start, name)
            self.assertEqual((self.shapes.row(shape), used), (row_of(left), 0))
            self.assertEqual(self.used(self.shapes.drop, start, name), (shape, 1))
        last = self.shapes.shape_of((x,))
        self.assertEqual(self.used(self.shapes.drop, last, "x"), (0, 0))
        self.assertEqual(self.used(self.shapes.drop, last, "x"), (0, 1))

    def test_dropping_what_is_not_there_is_no_way(self):
        start = self.shapes.shape_of((("x", "var", ONE),))
        for shape in (0, start, start):
            self.assertEqual(self.used(self.shapes.drop, shape, "y"), (shape, 0))
        self.assertEqual(self.shapes.count(), 2)

    def test_putting_and_dropping_are_other_ways(self):
        start = self.shapes.shape_of((("x", "var", ONE),))
        self.assertEqual(self.used(self.shapes.put, start, "x", "var", ONE), (start, 0))
        self.assertEqual(self.used(self.shapes.drop, start, "x"), (0, 0))


class TestPlaces(unittest.TestCase):
    def test_places(self):
        shapes = Shapes()
        shape = shapes.shape_of(tuple((name, "var", ONE) for name in "xyz"))
        self.assertEqual([shapes.place(shape, name) for name in ("x", "y", "z", "w", "X")], [0, 1, 2, -1, -1])
        self.assertEqual(shapes.place(0, "x"), -1)

    def test_parents(self):
        shapes = Shapes()
        for kinds, parents, free in (
                (("parent", "var", "varparent", "const", "parent", "method", "varparent"), (0, 2, 4, 6), (2, 6)),
                (("const", "var", "method"), (), ()), ((), (), ()), (("varparent",), (0,), (0,)), (("parent",), (0,), ())):
            for value in (LOBBY, ONE, NOTHING):
                shape = shapes.shape_of(tuple(("s" + str(at), kind, value) for at, kind in enumerate(kinds)))
                self.assertEqual(shapes.parents(shape), parents)
                self.assertEqual(shapes.free_parents(shape), free)


class TestByChance(unittest.TestCase):
    def test_shapes_after_changes_are_those_of_the_slots(self):
        chance = random.Random(7)
        shapes = Shapes()
        seen = {(): 0}
        for _ in range(100):
            slots, shape = {}, 0
            for _ in range(12):
                name = chance.choice("xyz")
                if chance.randrange(3) == 0:
                    slots.pop(name, None)
                    shape = shapes.drop(shape, name)
                else:
                    kind, value = chance.choice(KINDS), chance.choice((ONE, TWO))
                    slots[name] = (kind, value)
                    shape = shapes.put(shape, name, kind, value)
                row = tuple((name, kind, value if kind in FIXED else None) for name, (kind, value) in slots.items())
                self.assertEqual(seen.setdefault(row, len(seen)), shape)
                self.assertEqual(shapes.row(shape), row)
                self.assertEqual(shapes.shape_of(tuple((name, *pair) for name, pair in slots.items())), shape)
        self.assertEqual(shapes.count(), len(seen))


if __name__ == "__main__":
    unittest.main()
