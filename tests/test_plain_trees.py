"""Part 4 as a whole: what programs by chance print, and how they end, told also by another way to run them."""

import unittest

from machines import MachineCase
from reaimed.check_code import heights
from reaimed.emit import compile_text
from reaimed.parser import parse
from reaimed.plain import PlainMachine
from trees import TooLong, Tree
from worlds import world_text


class TestAgainstTrees(MachineCase):
    def test_prints_and_ends(self):
        ends = {}
        for seed in range(400):
            text = world_text(seed)
            try:
                tree = Tree(parse(text))
            except TooLong:
                continue
            machine = self.run_whole(PlainMachine(compile_text(text)), 20000)
            # Numbers of methods differ, and no other value of these programs is printed.
            self.assertEqual([value for _, value in machine.events], tree.prints, text)
            self.assertEqual(machine.end, tree.end, text)
            ends[machine.end] = ends.get(machine.end, 0) + 1
        self.assertGreater(ends[("done",)], 150)
        self.assertGreater(len(ends), 3)


class TestInvariants(MachineCase):
    def test_stacks_have_the_heights_of_their_rows(self):
        for seed in range(60):
            machine = PlainMachine(compile_text(world_text(seed)))
            tall = [heights(rows) for _, _, _, rows in machine.code[0]]
            while machine.end is None and machine.ticks < 300:
                for frame in machine.frames[:-1]:
                    # The result of the frame behind it is still missing.
                    self.assertEqual(len(frame[6]) + 1, tall[frame[1]][frame[2]])
                last = machine.frames[-1]
                self.assertEqual(len(last[6]), tall[last[1]][last[2]])
                machine.tick()

    def test_ids_are_given_in_order(self):
        for seed in range(60):
            machine = PlainMachine(compile_text(world_text(seed)))
            while machine.end is None and machine.ticks < 300:
                machine.tick()
                for ids in (machine.objects.ids(), list(machine.scopes), list(machine.blocks)):
                    self.assertEqual(ids, list(range(len(ids))))


if __name__ == "__main__":
    unittest.main()
