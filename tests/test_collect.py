"""Part 9: what is live, and what a collection takes away."""

import random
import unittest

from machines import NOTHING, ONE, TRUE, MachineCase, method, push, ref
from reaimed.collect import collect, live
from reaimed.objects import Objects
from reaimed.plain import PlainMachine
from values import kinds_in


def block(number):
    return ("block", number)


def frame(self_value=NOTHING, holder=0, place=("locals", (), -1), stack=(), kind="method", mark=0):
    return (kind, 0, 0, self_value, holder, place, stack, mark)


class HeapCase(unittest.TestCase):
    def setUp(self):
        self.objects = Objects()
        self.scopes = {}
        self.blocks = {}
        self.frames = []

    def make(self, *values, kind="const"):
        """An object with these values in its slots; its id."""
        return self.objects.make(tuple(("s" + str(at), kind, value) for at, value in enumerate(values)))

    def check(self, objects=(), scopes=(), blocks=()):
        """These are live, and the lobby; a collection takes away all else, and nothing then."""
        wanted = ([0] + sorted(objects), sorted(scopes), sorted(blocks))
        image = (self.objects.image(), dict(self.scopes), dict(self.blocks), list(self.frames))
        self.assertEqual(live(self.objects, self.scopes, self.blocks, self.frames), wanted)
        self.assertEqual(live(self.objects, self.scopes, self.blocks, tuple(self.frames)), wanted)
        self.assertEqual((self.objects.image(), self.scopes, self.blocks, self.frames), image)
        gone = [number for number in self.objects.ids() if number not in wanted[0]]
        self.assertEqual(collect(self.objects, self.scopes, self.blocks, self.frames), gone)
        self.assertEqual((self.objects.ids(), sorted(self.scopes), sorted(self.blocks)), wanted)
        self.assertEqual(self.frames, image[3])
        # What stays is as it was.
        self.assertEqual(self.objects.image(), tuple(pair for pair in image[0] if pair[0] in wanted[0]))
        for table, before in ((self.scopes, image[1]), (self.blocks, image[2])):
            self.assertEqual(table, {number: before[number] for number in table})
        self.assertEqual(collect(self.objects, self.scopes, self.blocks, self.frames), [])
        self.assertEqual((self.objects.ids(), sorted(self.scopes), sorted(self.blocks)), wanted)


class TestInterface(HeapCase):
    def test_names(self):
        self.assertEqual(live.__module__, "reaimed.collect")
        self.assertEqual(collect.__module__, "reaimed.collect")
        given = {"objects": self.objects, "scopes": {}, "blocks": {}, "frames": ()}
        self.assertEqual(live(**given), ([0], [], []))
        self.assertEqual(collect(**given), [])

    def test_kinds_of_values(self):
        self.make()
        triple = live(self.objects, {}, {}, [])
        self.assertEqual((triple.__class__, [part.__class__ for part in triple]), (tuple, [list] * 3))
        gone = collect(self.objects, {}, {}, [])
        self.assertEqual((gone, gone.__class__), ([1], list))
        self.assertEqual(kinds_in(tuple(gone)), {tuple, int})


class TestFrames(HeapCase):
    def test_nothing_but_the_lobby(self):
        self.make()
        self.scopes[0] = (-1, ())
        self.blocks[0] = (0, NOTHING, 0, 0, 1)
        self.check()

    def test_self_and_holder(self):
        ids = [self.make() for _ in range(4)]
        self.frames = [frame(self_value=ref(ids[1])), frame(holder=ids[2])]
        self.check(objects=ids[1:3])

    def test_self_that_is_a_block(self):
        self.scopes[4] = (-1, ())
        self.blocks[2] = (0, NOTHING, 0, 4, 1)
        self.blocks[3] = (0, NOTHING, 0, 4, 1)
        self.frames = [frame(self_value=block(2))]
        self.check(scopes=[4], blocks=[2])

    def test_places(self):
        ids = [self.make() for _ in range(5)]
        self.scopes.update({number: (-1, (ref(ids[number]),)) for number in range(4)})
        self.frames = [frame(place=("scope", 1)), frame(place=("locals", (ref(ids[4]), ONE), 2), kind="block", mark=3)]
        self.check(objects=(ids[1], ids[2], ids[4]), scopes=(1, 2))

    def test_places_without_a_scope_around(self):
        self.scopes[0] = (-1, ())
        self.frames = [frame(place=("locals", (NOTHING,), -1))]
        self.check()

    def test_stacks(self):
        ids = [self.make() for _ in range(4)]
        self.frames = [frame(stack=(ref(ids[3]), TRUE, ref(ids[0]))), frame(stack=(ref(ids[2]),))]
        self.check(objects=(ids[0], ids[2], ids[3]))

    def test_all_frames_count(self):
        ids = [self.make() for _ in range(40)]
        self.frames = [frame(self_value=ref(number)) for number in ids[::2]]
        self.check(objects=ids[::2])

    def test_marks_lead_to_nothing(self):
        self.make()
        self.scopes[1] = (-1, ())
        self.blocks[1] = (0, NOTHING, 0, 1, 1)
        self.frames = [frame(mark=1), frame(kind="block", mark=1)]
        self.check()

    def test_methods_lead_to_nothing(self):
        self.make()
        self.frames = [frame(stack=(("method", 1), ("num", 1)), self_value=("num", 1))]
        self.check()


class TestWays(HeapCase):
    def test_slots_of_all_kinds(self):
        ids = [self.make() for _ in range(6)]
        for at, kind in enumerate(("const", "var", "parent", "varparent", "method")):
            self.objects.put(0, "s" + str(at), kind, ref(ids[at]))
        self.check(objects=ids[:5])

    def test_objects_and_blocks_of_objects(self):
        one = self.make(ref(0))
        two = self.make(ref(one), block(0))
        self.make(ref(two))
        self.scopes[7] = (-1, ())
        self.blocks[0] = (0, ref(one), 0, 7, 1)
        self.frames = [frame(self_value=ref(two))]
        self.check(objects=(one, two), scopes=(7,), blocks=(0,))

    def test_scopes(self):
        ids = [self.make() for _ in range(4)]
        self.scopes.update({0: (-1, (ref(ids[0]),)), 1: (0, (block(5), ONE)), 2: (1, (ref(ids[2]),)), 3: (2, ())})
        self.blocks.update({5: (0, NOTHING, 0, 0, 1), 6: (0, NOTHING, 0, 3, 1)})
        self.frames = [frame(place=("scope", 1))]
        self.check(objects=(ids[0],), scopes=(0, 1), blocks=(5,))

    def test_blocks(self):
        ids = [self.make() for _ in range(4)]
        self.scopes.update({number: (-1, ()) for number in range(3)})
        self.blocks.update({number: (0, ref(ids[number]), ids[3], number, 9) for number in range(2)})
        self.frames = [frame(stack=(block(1),))]
        self.check(objects=(ids[1], ids[3]), scopes=(1,), blocks=(1,))

    def test_rings(self):
        one, two = self.make(), self.make()
        self.objects.put(one, "p", "parent", ref(two))
        self.objects.put(two, "p", "parent", ref(one))
        other, more = self.make(), self.make()
        self.objects.put(other, "p", "parent", ref(more))
        self.objects.put(more, "p", "parent", ref(other))
        self.scopes[0] = (-1, (block(0),))
        self.blocks[0] = (0, NOTHING, 0, 0, 1)
        self.scopes[1] = (-1, (block(1), ref(two)))
        self.blocks[1] = (0, NOTHING, 0, 1, 1)
        self.frames = [frame(stack=(block(1),))]
        self.check(objects=(one, two), scopes=(1,), blocks=(1,))

    def test_long_chains(self):
        number, scope = 0, -1
        for at in range(3000):
            number = self.make(ref(number), block(at))
            self.scopes[at] = (scope, (ref(number),))
            self.blocks[at] = (0, ref(number), 0, at, 1)
            scope = at
        self.make()
        self.frames = [frame(stack=(block(2999),))]
        self.check(objects=range(1, 3001), scopes=range(3000), blocks=range(3000))
        self.frames = [frame(self_value=ref(700))]
        self.check(objects=range(1, 701), scopes=range(700), blocks=range(700))

    def test_the_lobby_leads_on(self):
        one = self.make()
        self.objects.put(0, "lobby", "const", ref(one))
        self.check(objects=(one,))


class TestIds(HeapCase):
    def test_holes(self):
        ids = [self.make() for _ in range(8)]
        for at in (1, 4, 6):
            self.objects.put(0, "s" + str(at), "const", ref(ids[at]))
        self.assertEqual(collect(self.objects, {}, {}, []), [ids[at] for at in (0, 2, 3, 5, 7)])
        self.assertEqual(self.make(), 9)
        self.objects.drop(0, "s4")
        self.assertEqual(collect(self.objects, {}, {}, []), [ids[4], 9])
        self.assertEqual(self.make(), 10)
        self.check(objects=(ids[1], ids[6]))


class TestMachines(MachineCase):
    """A collection of a plain machine between its ticks is not seen by what happens then."""

    TEXT = """
        method count(n) { return fn () { n := n + 1; n; }; }
        main {
            let i = 0; let kept = nothing; let ring = nothing;
            while i < 6 {
                let one = object { var up = nothing; const n = i; };
                one.up := one;
                let f = count(i * 10); f.call(); print f.call(); print fn () { i; };
                if i == 2 { kept := f; ring := one; }
                i := i + 1;
            }
            print kept.call(); print ring.up().n(); print object { }; print count(1);
        }
    """

    def test_side_by_side(self):
        for every in (1, 2, 5, 17):
            machine, other = self.text(self.TEXT), self.text(self.TEXT)
            while other.end is None:
                if machine.ticks < 17 or machine.ticks in range(0, 1000, every):
                    ids = live(machine.objects, machine.scopes, machine.blocks, machine.frames)
                    machine.keep(*ids)
                    self.assertEqual(collect(machine.objects, machine.scopes, machine.blocks, machine.frames), [])
                machine.tick()
                other.tick()
                self.same(machine, other)
            self.assertEqual(machine.end, ("done",))
            self.assertLess(len(machine.objects.ids()), len(other.objects.ids()))
            self.assertLess(len(machine.scopes), len(other.scopes))
            self.assertLess(len(machine.blocks), len(other.blocks))

    def same(self, machine, other):
        few, many = machine.state(), other.state()
        self.assertEqual((few[0], few[4:]), (many[0], many[4:]))
        ids = live(other.objects, other.scopes, other.blocks, other.frames)
        for at in range(3):
            self.assertLessEqual(set(few[at + 1]), set(many[at + 1]))
            self.assertLessEqual(set(ids[at]), {number for number, _ in few[at + 1]})

    def test_events_keep_nothing(self):
        machine = PlainMachine(((method(0, 0, ("object", ()), ("print",), push("nothing"), ("return",)),), 0))
        self.go(machine, 2)
        self.assertEqual(machine.events, [("print", ref(1))])
        self.assertEqual(collect(machine.objects, machine.scopes, machine.blocks, machine.frames), [1])
        self.assertEqual(machine.events, [("print", ref(1))])


class TestByChance(HeapCase):
    def reached(self):
        """What is live, as sets that grow until nothing is new."""
        found = {("ref", 0)}
        for _, _, _, self_value, holder, place, stack, _ in self.frames:
            found |= {self_value, ("ref", holder), *stack}
            found |= {("scope", place[1])} if place[0] == "scope" else {*place[1], ("scope", place[2])}
        while True:
            more = set(found)
            for word, number in [value for value in found if len(value) == 2]:
                if word == "ref":
                    more |= {value for _, _, value in self.objects.slots(number)}
                elif word == "block":
                    _, self_value, holder, scope, _ = self.blocks[number]
                    more |= {self_value, ("ref", holder), ("scope", scope)}
                elif word == "scope" and number >= 0:
                    outer, values = self.scopes[number]
                    more |= {*values, ("scope", outer)}
            if more == found:
                return [sorted(value[1] for value in found if value[0] == word and value[1] >= 0)
                        for word in ("ref", "scope", "block")]
            found = more

    def test_small_heaps(self):
        chance = random.Random(5)
        for _ in range(400):
            self.setUp()
            values = [ref(chance.randrange(6)) for _ in range(6)] + [block(chance.randrange(4)) for _ in range(3)]
            values += [NOTHING, ONE, ("method", 2)] * 3
            for _ in range(5):
                self.make(*chance.sample(values, chance.randrange(3)))
            for number in range(4):
                self.scopes[number] = (chance.randrange(-1, 4), tuple(chance.sample(values, chance.randrange(2))))
                self.blocks[number] = (0, chance.choice(values), chance.randrange(6), chance.randrange(4), 1)
            for _ in range(chance.randrange(3)):
                places = (("scope", chance.randrange(4)), ("locals", tuple(chance.sample(values, 1)), chance.randrange(-1, 4)))
                self.frames.append(frame(chance.choice(values), chance.randrange(6), chance.choice(places),
                                         tuple(chance.sample(values, chance.randrange(2)))))
            objects, scopes, blocks = self.reached()
            self.check(objects[1:], scopes, blocks)


if __name__ == "__main__":
    unittest.main()
