"""Points 3.1 to 3.5: objects, their slots, their ids and their parents."""

import random
import unittest

from reaimed.objects import KINDS, Objects
from values import kinds_in

ONE = ("num", 1)
TWO = ("num", 2)
LOBBY = ("lobby", "const", ("ref", 0))
VALUES = (("num", 0), ("num", -3), ("num", 10 ** 30), ("true",), ("false",), ("nothing",), ("ref", 0), ("method", 0),
          ("block", 0))
METHODS = ("make", "ids", "has", "slots", "slot", "put", "drop", "assign", "parents", "keep", "image")


class TestInterface(unittest.TestCase):
    def test_kinds(self):
        self.assertEqual(KINDS, ("const", "var", "parent", "varparent", "method"))

    def test_the_class_and_its_methods_stand_in_their_file(self):
        self.assertEqual(Objects.__module__, "reaimed.objects")
        for name in METHODS:
            self.assertIn(name, vars(Objects))

    def test_some_arguments_can_be_passed_by_name(self):
        objects = Objects()
        self.assertEqual(objects.make(slots=()), 1)
        self.assertIsNone(objects.put(1, name="a", kind="var", value=ONE))
        self.assertIsNone(objects.assign(1, name="a", value=TWO))
        self.assertEqual(objects.slot(1, name="a"), ("var", TWO))
        self.assertIs(objects.drop(1, name="a"), True)
        self.assertIsNone(objects.keep(ids=[1]))
        self.assertEqual(objects.ids(), [1])

    def test_kinds_of_values(self):
        objects = Objects()
        made = objects.make((("a", "parent", ("ref", 0)), ("b", "var", ONE)))
        self.assertIs(made.__class__, int)
        self.assertEqual([each.__class__ for each in objects.ids()], [int, int])
        self.assertIs(objects.ids().__class__, list)
        for value in (objects.slots(1), objects.slot(1, "a"), objects.parents(1), objects.image()):
            self.assertIs(value.__class__, tuple)
            self.assertLessEqual(kinds_in(value), {tuple, int, str})


class TestLobby(unittest.TestCase):
    def test_it_is_there_from_the_beginning(self):
        objects = Objects()
        self.assertEqual(objects.ids(), [0])
        self.assertEqual(objects.slots(0), (LOBBY,))
        self.assertEqual(objects.slot(0, "lobby"), ("const", ("ref", 0)))
        self.assertEqual(objects.image(), ((0, (LOBBY,)),))
        self.assertEqual(objects.parents(0), ())

    def test_it_is_an_object_like_others(self):
        objects = Objects()
        objects.put(0, "a", "var", ONE)
        objects.put(0, "lobby", "parent", ("ref", 0))
        self.assertEqual(objects.slots(0), (("lobby", "parent", ("ref", 0)), ("a", "var", ONE)))
        self.assertEqual(objects.parents(0), (0,))
        self.assertTrue(objects.drop(0, "lobby"))
        self.assertEqual(objects.slots(0), (("a", "var", ONE),))

    def test_each_has_its_own(self):
        one, other = Objects(), Objects()
        one.put(0, "a", "var", ONE)
        one.make(())
        self.assertEqual(other.image(), ((0, (LOBBY,)),))


class TestMake(unittest.TestCase):
    def test_ids_are_given_in_order(self):
        objects = Objects()
        self.assertEqual([objects.make(()) for _ in range(4)], [1, 2, 3, 4])
        self.assertEqual(objects.ids(), [0, 1, 2, 3, 4])

    def test_slots_in_order(self):
        for slots in ((), (("a", "var", ONE),), tuple(("a" + kind, kind, ONE) for kind in KINDS),
                      tuple(("a" + str(at), "const", value) for at, value in enumerate(VALUES)),
                      tuple(("a" + kind, kind, ("method", 3)) for kind in reversed(KINDS))):
            objects = Objects()
            self.assertEqual(objects.slots(objects.make(slots)), slots)
            self.assertEqual(objects.slots(0), (LOBBY,))

    def test_names_that_occur_twice(self):
        objects = Objects()
        objects.make((("a", "var", ONE), ("b", "const", ONE), ("a", "parent", TWO)))
        self.assertEqual(objects.slots(1), (("a", "parent", TWO), ("b", "const", ONE)))
        objects.make((("a", "var", ONE), ("a", "const", TWO), ("b", "var", ONE), ("b", "var", TWO), ("a", "method", ONE)))
        self.assertEqual(objects.slots(2), (("a", "method", ONE), ("b", "var", TWO)))

    def test_objects_of_the_same_slots_are_different(self):
        objects = Objects()
        slots = (("a", "var", ONE),)
        one, other = objects.make(slots), objects.make(slots)
        objects.put(one, "a", "var", TWO)
        self.assertEqual(objects.slots(other), slots)
        self.assertEqual(slots, (("a", "var", ONE),))


class SlotCase(unittest.TestCase):
    def setUp(self):
        self.objects = Objects()
        self.slots = (("a", "var", ONE), ("b", "const", ONE), ("c", "parent", ("ref", 0)))
        self.objects.make(self.slots)
        self.objects.make(self.slots)

    def check(self, *slots):
        """Checks the slots of the object 1, and that the others are as they were."""
        self.assertEqual(self.objects.slots(1), slots)
        self.assertEqual(self.objects.slots(2), self.slots)
        self.assertEqual(self.objects.slots(0), (LOBBY,))
        for name, kind, value in slots:
            self.assertEqual(self.objects.slot(1, name), (kind, value))


class TestPut(SlotCase):
    def test_a_name_that_is_there_keeps_its_place(self):
        self.assertIsNone(self.objects.put(1, "b", "method", ("method", 5)))
        self.check(self.slots[0], ("b", "method", ("method", 5)), self.slots[2])
        self.objects.put(1, "a", "varparent", TWO)
        self.check(("a", "varparent", TWO), ("b", "method", ("method", 5)), self.slots[2])

    def test_the_same_slot_again(self):
        self.objects.put(1, "b", "const", ONE)
        self.check(*self.slots)

    def test_a_new_name_becomes_the_last_one(self):
        self.assertIsNone(self.objects.put(1, "A", "var", TWO))
        self.check(*self.slots, ("A", "var", TWO))

    def test_any_kind_and_any_value(self):
        for kind in KINDS:
            for value in VALUES:
                self.objects.put(1, "b", kind, value)
                self.check(self.slots[0], ("b", kind, value), self.slots[2])


class TestDrop(SlotCase):
    def test_a_name_that_is_there(self):
        self.assertIs(self.objects.drop(1, "b"), True)
        self.check(self.slots[0], self.slots[2])
        self.assertIs(self.objects.drop(1, "a"), True)
        self.assertIs(self.objects.drop(1, "c"), True)
        self.check()

    def test_a_name_that_is_not_there(self):
        self.assertIs(self.objects.drop(1, "d"), False)
        self.check(*self.slots)
        self.objects.drop(1, "a")
        self.assertIs(self.objects.drop(1, "a"), False)
        self.assertIs(self.objects.drop(1, "lobby"), False)
        self.check(*self.slots[1:])

    def test_a_name_that_a_parent_has(self):
        self.assertIs(self.objects.drop(2, "lobby"), False)
        self.check(*self.slots)

    def test_a_slot_that_is_put_again_becomes_the_last_one(self):
        self.objects.drop(1, "a")
        self.objects.put(1, "a", "var", ONE)
        self.check(*self.slots[1:], self.slots[0])


class TestAssign(SlotCase):
    def test_the_value_is_replaced(self):
        for name, kind, _ in self.slots:
            for value in VALUES:
                self.assertIsNone(self.objects.assign(1, name, value))
                self.assertEqual(self.objects.slot(1, name), (kind, value))
        self.check(*[(name, kind, VALUES[-1]) for name, kind, _ in self.slots])


class TestSlots(SlotCase):
    def test_a_name_that_is_not_there(self):
        for name in ("d", "", "A", "lobby"):
            self.assertIsNone(self.objects.slot(1, name))
        self.objects.drop(1, "a")
        self.assertIsNone(self.objects.slot(1, "a"))
        self.assertIsNone(self.objects.slot(0, "a"))

    def test_a_name_that_is_there(self):
        self.assertEqual(self.objects.slot(1, "b"), ("const", ONE))


class TestParents(unittest.TestCase):
    def check(self, parents, *slots):
        objects = Objects()
        for _ in range(3):
            objects.make(())
        self.assertEqual(objects.parents(objects.make(slots)), parents)

    def test_in_the_order_of_the_slots(self):
        self.check(())
        self.check((2,), ("a", "parent", ("ref", 2)))
        self.check((3, 0, 1), ("a", "varparent", ("ref", 3)), ("b", "parent", ("ref", 0)), ("c", "parent", ("ref", 1)))

    def test_other_kinds(self):
        for kind in ("const", "var", "method"):
            self.check((), ("a", kind, ("ref", 2)))
            self.check((1,), ("a", kind, ("ref", 2)), ("b", "parent", ("ref", 1)), ("c", kind, ("ref", 0)))

    def test_values_that_are_no_references(self):
        for value in VALUES:
            if value[0] != "ref":
                for kind in ("parent", "varparent"):
                    self.check((), ("a", kind, value))
                    self.check((1, 2), ("a", "parent", ("ref", 1)), ("b", kind, value), ("c", "varparent", ("ref", 2)))

    def test_twice_the_same(self):
        self.check((2, 2), ("a", "parent", ("ref", 2)), ("b", "varparent", ("ref", 2)))
        self.check((2, 1, 2), ("a", "parent", ("ref", 2)), ("b", "varparent", ("ref", 1)), ("c", "parent", ("ref", 2)))

    def test_an_object_that_is_its_own_parent(self):
        self.check((4,), ("a", "parent", ("ref", 4)))
        self.check((4, 0, 4), ("a", "parent", ("ref", 4)), ("b", "parent", ("ref", 0)), ("c", "varparent", ("ref", 4)))

    def test_they_change_with_the_slots(self):
        objects = Objects()
        objects.make((("a", "parent", ("ref", 0)), ("b", "varparent", ("ref", 1))))
        self.assertEqual(objects.parents(1), (0, 1))
        objects.assign(1, "a", ("ref", 1))
        self.assertEqual(objects.parents(1), (1, 1))
        objects.put(1, "b", "var", ("ref", 0))
        self.assertEqual(objects.parents(1), (1,))
        objects.put(1, "c", "varparent", ("ref", 0))
        self.assertEqual(objects.parents(1), (1, 0))
        objects.drop(1, "a")
        self.assertEqual(objects.parents(1), (0,))
        objects.assign(1, "c", ("nothing",))
        self.assertEqual(objects.parents(1), ())


class TestKeep(unittest.TestCase):
    def setUp(self):
        self.objects = Objects()
        for number in range(1, 5):
            self.objects.make((("a", "var", ("num", number)),))

    def test_others_are_taken_away(self):
        self.assertIsNone(self.objects.keep([0, 2, 3]))
        self.assertEqual(self.objects.ids(), [0, 2, 3])
        self.assertEqual([self.objects.has(each) for each in range(5)], [True, False, True, True, False])
        self.assertEqual(self.objects.image(), (
            (0, (LOBBY,)), (2, (("a", "var", ("num", 2)),)), (3, (("a", "var", ("num", 3)),))))

    def test_ids_behind_it(self):
        self.objects.keep([0, 2])
        self.assertEqual(self.objects.make(()), 5)
        self.objects.keep([0])
        self.assertEqual(self.objects.make(()), 6)
        self.assertEqual(self.objects.ids(), [0, 6])

    def test_lists_of_other_orders(self):
        self.objects.keep([4, 1, 0, 4, 1])
        self.assertEqual(self.objects.ids(), [0, 1, 4])
        self.assertEqual([pair[0] for pair in self.objects.image()], [0, 1, 4])

    def test_all_and_none(self):
        before = self.objects.image()
        self.objects.keep([0, 1, 2, 3, 4])
        self.assertEqual(self.objects.image(), before)
        self.objects.keep([])
        self.assertEqual(self.objects.ids(), [])
        self.assertEqual(self.objects.image(), ())
        self.assertEqual(self.objects.make(()), 5)

    def test_ids_that_are_not_there_any_more(self):
        self.objects.keep([0, 3])
        self.objects.keep([0, 1, 2])
        self.assertEqual(self.objects.ids(), [0])

    def test_parents_are_told_by_their_slots(self):
        self.objects.make((("a", "parent", ("ref", 1)), ("b", "parent", ("ref", 0))))
        self.objects.keep([0, 5])
        self.assertEqual(self.objects.parents(5), (1, 0))

    def test_the_list_stays_as_it_was_and_is_not_kept(self):
        ids = [3, 0]
        self.objects.keep(ids)
        self.assertEqual(ids, [3, 0])
        ids.append(1)
        self.assertEqual(self.objects.ids(), [0, 3])


class TestHas(unittest.TestCase):
    def test_any_integer(self):
        objects = Objects()
        objects.make(())
        for number, there in ((0, True), (1, True), (2, False), (-1, False), (-2, False), (10 ** 30, False)):
            self.assertIs(objects.has(number), there)


class TestResults(unittest.TestCase):
    """Later changes to what was returned have no effect."""

    def test_ids(self):
        objects = Objects()
        objects.make(())
        objects.ids().append(7)
        objects.ids().clear()
        self.assertEqual(objects.ids(), [0, 1])
        self.assertFalse(objects.has(7))

    def test_what_was_returned_stays_as_it_was(self):
        objects = Objects()
        objects.make((("a", "parent", ("ref", 0)),))
        ids, slots, parents, image = objects.ids(), objects.slots(1), objects.parents(1), objects.image()
        objects.put(1, "a", "var", ONE)
        objects.make(())
        objects.keep([2])
        self.assertEqual((ids, slots, parents), ([0, 1], (("a", "parent", ("ref", 0)),), (0,)))
        self.assertEqual(image, ((0, (LOBBY,)), (1, slots)))


class TestByChance(unittest.TestCase):
    """Compares objects with rows of slots that are searched from the left."""

    def test_many_changes(self):
        chance = random.Random(7)
        objects = Objects()
        rows = {0: [LOBBY]}
        for step in range(3000):
            each = chance.choice(sorted(rows))
            name, kind, value = chance.choice("abcde"), chance.choice(KINDS), chance.choice(VALUES)
            places = [at for at, slot in enumerate(rows[each]) if slot[0] == name]
            deed = chance.randrange(20)
            if deed < 8:
                objects.put(each, name, kind, value)
                if places:
                    rows[each][places[0]] = (name, kind, value)
                else:
                    rows[each].append((name, kind, value))
            elif deed < 14:
                self.assertIs(objects.drop(each, name), bool(places))
                for at in places:
                    del rows[each][at]
            elif deed < 18:
                for at in places:
                    objects.assign(each, name, value)
                    rows[each][at] = (name, rows[each][at][1], value)
            elif deed < 19:
                made = objects.make(((name, kind, value),))
                self.assertNotIn(made, rows)
                rows[made] = [(name, kind, value)]
            elif len(rows) > 8:
                kept = chance.sample(sorted(rows), 4)
                objects.keep(kept)
                rows = {other: rows[other] for other in kept}
            self.assertEqual(objects.image(), tuple((other, tuple(rows[other])) for other in sorted(rows)))
            self.assertEqual(objects.ids(), sorted(rows))


if __name__ == "__main__":
    unittest.main()
