"""Points 0.3, 7.1 to 7.8 and 8.7: fast machines beside plain ones, for programs and deeds by chance."""

import random
import unittest

from machines import NOTHING
from reaimed.check_code import check_code, heights
from reaimed.emit import compile_text
from reaimed.errors import BadCode
from reaimed.fast import FastMachine
from reaimed.fast_code import make_fast
from reaimed.plain import PlainMachine
from reaimed.run import do_deed, run_fast, run_plain, same_state
from worlds import world_text

KINDS = ("const", "var", "parent", "varparent", "method")
NAMES = ("x", "y", "z", "f", "g", "h", "up", "o", "p", "lobby")


def changed_code(code, chance):
    """A code like this one that no text has, if it is one that part 2 accepts."""
    codes = [list(one) for one in code[0]]
    for _ in range(5):
        j = chance.randrange(len(codes))
        rows = list(codes[j][3])
        at = chance.randrange(len(rows))
        word = rows[at][0]
        number, name, kind = chance.randrange(len(codes)), chance.choice(NAMES), chance.choice(KINDS)
        if word in ("method", "block"):
            rows[at] = (word, number)
        elif word in ("send", "resend"):
            rows[at] = (word, name, rows[at][2])
        elif word == "put":
            rows[at] = ("put", name, kind)
        elif word == "object":
            rows[at] = ("object", tuple((chance.choice(NAMES), chance.choice(KINDS)) for _ in rows[at][1]))
        elif word in ("push", "local"):
            rows[at] = chance.choice((("method", number), ("self",), rows[at]))
        elif word == "return":
            rows[at] = ("home",)
        codes[j][2:] = [any(row[0] == "block" for row in rows), tuple(rows)]
    changed = (tuple(tuple(one) for one in codes), code[1])
    try:
        check_code(changed)
    except BadCode:
        return code
    return changed


class Pair:
    """A fast and a plain machine that do the same ticks, with deeds by chance."""

    def __init__(self, code, seed, most=300, collecting=False):
        self.chance = random.Random(seed)
        self.fast, self.plain = FastMachine(code), PlainMachine(code)
        self.collecting, self.collected = collecting, False
        self.most = most
        self.methods = len(code[0])

    def deed(self):
        word = self.chance.choice(
            ("compile all", "compile all", "compile", "compile", "take back", "forget", "collect"))
        if word == "collect":
            if not self.collecting:
                return
            self.collected = True
        if word == "forget" and self.chance.randrange(3):
            return
        j = self.chance.randrange(self.methods)
        do_deed(self.fast, (word, j) if word in ("compile", "take back") else (word,))

    def run(self, case):
        while self.plain.end is None and self.plain.ticks < self.most:
            if self.chance.randrange(4) == 0:
                self.deed()
                self.compare(case)
            try:
                self.plain.tick()
            except KeyError:
                # Rows of blocks in methods, for which nothing is promised.
                return
            self.fast.tick()
            self.compare(case)

    def compare(self, case):
        case.assertEqual((self.fast.ticks, self.fast.end), (self.plain.ticks, self.plain.end))
        if self.collected:
            case.assertTrue(same_state(self.fast, self.plain))
        else:
            case.assertEqual(self.fast.state(), self.plain.state())


class TestSideBySide(unittest.TestCase):
    def test_texts(self):
        placed = 0
        for seed in range(120):
            pair = Pair(compile_text(world_text(seed)), seed)
            pair.run(self)
            placed += pair.fast.placed
        self.assertGreater(placed, 200)

    def test_texts_with_collections(self):
        for seed in range(120, 180):
            Pair(compile_text(world_text(seed)), seed, collecting=True).run(self)

    def test_codes_that_no_text_has(self):
        ends = set()
        for seed in range(300):
            chance = random.Random(seed)
            code = compile_text(world_text(seed))
            for _ in range(15):
                code = changed_code(code, chance)
            pair = Pair(code, seed, most=150, collecting=seed % 2 == 0)
            pair.run(self)
            ends.add(pair.plain.end)
        self.assertLessEqual({("error", word) for word in ("none", "gone", "number", "arguments")}, ends)

    def test_schedules(self):
        for seed in range(40):
            chance = random.Random(seed)
            code = compile_text(world_text(seed))
            words = (("compile all",), ("forget",), ("collect",), ("compile", 1), ("take back", 2))
            schedule = [(chance.randrange(300), chance.choice(words)) for _ in range(40)]
            ticks = chance.randrange(50, 400)
            self.assertTrue(same_state(run_fast(code, schedule, ticks), run_plain(code, ticks)))


class TestFastCode(unittest.TestCase):
    """Each fast code of worlds that have run for a while, row by row, against the points of part 7."""

    def check(self, machine, j):
        code, caches = machine.code, machine.caches
        made = make_fast(code, machine.objects, machine.shapes, caches, j, 10 ** 6)
        if code[0][j][2]:
            self.assertIsNone(made)
            return 0
        index, rows, places, rests = made
        self.assertEqual((index, len(rows)), (j, len(places)))
        used = set()
        for at, row in enumerate(rows):
            self.check_row(machine, made, at)
            if row[0] in ("read", "enter"):
                used |= set(caches.entries(places[at][-1][:2])[0][3])
        self.assertEqual(rests, tuple(sorted(used)))
        # Each row of a level that can be reached stands there, in order.
        for levels in {(place[:-1], place[-1][0]) for place in places}:
            numbers = [place[-1][1] for place in places if (place[:-1], place[-1][0]) == levels]
            tall = heights(code[0][levels[1]][3])
            self.assertEqual(numbers, [number for number, height in enumerate(tall) if height >= 0])
        self.assertIsNone(make_fast(code, machine.objects, machine.shapes, caches, j, len(rows) - 1))
        self.assertEqual(make_fast(code, machine.objects, machine.shapes, caches, j, len(rows)), made)
        return len([row for row in rows if row[0] == "enter"])

    def check_row(self, machine, made, at):
        _, rows, places, _ = made
        fast, levels = rows[at], places[at]
        outer, (j, number, base, holder) = levels[:-1], levels[-1]
        _, many, _, plain_rows = machine.code[0][j]
        plain = plain_rows[number]
        first = base + 1
        if outer == ():
            self.assertEqual((base, holder), (-1, None))
        if plain[0] == "send":
            self.check_send(machine, made, at)
        elif plain[0] == "self":
            self.assertEqual(fast, ("self",) if outer == () else ("word", base))
        elif plain[0] in ("local", "set"):
            self.assertEqual(fast, ({"local": "word", "set": "setword"}[plain[0]], first + plain[1]))
        elif plain[0] == "resend":
            self.assertEqual(fast, plain + (base, holder))
        elif plain[0] in ("jump", "jumpno"):
            self.assertEqual(fast[0], plain[0])
            self.assertEqual(places[fast[1]], outer + ((j, plain[1], base, holder),))
        elif plain[0] == "return" and outer:
            self.assertEqual(fast[:2], ("leave", base))
            self.assertEqual(places[fast[2]], outer)
        else:
            self.assertEqual(fast, plain)

    def check_send(self, machine, made, at):
        _, rows, places, _ = made
        fast, levels = rows[at], places[at]
        j, number, base, holder = levels[-1]
        _, name, many = machine.code[0][j][3][number]
        entries = machine.caches.entries((j, number))
        found = None
        if len(entries) == 1 and entries[0][2][0] in ("own", "held"):
            key, _, answer, _ = entries[0]
            if answer[0] == "own":
                _, kind, value = machine.shapes.row(key[0])[answer[1]]
            else:
                kind, value = machine.objects.slot(answer[1], name)
            found = (key, -1 if answer[0] == "own" else answer[1], kind, value)
        if found is None:
            self.assertEqual(fast, ("send", name, many))
            return
        key, where, kind, value = found
        if kind != "method" or value[0] != "method":
            self.assertEqual(fast, ("read", key, name, where) if many == 0 else ("send", name, many))
            return
        params, places_of_j, captured, inner = machine.code[0][value[1]]
        known = {level[0] for level in levels}
        if params == many and not captured and len(inner) <= 30 and value[1] not in known and len(levels) < 3:
            self.assertEqual(fast, ("enter", key, name, many, value[1], where, places_of_j - params))
            height = heights(machine.code[0][j][3])[number]
            start = base + 1 + machine.code[0][j][1] + height - many - 1
            self.assertEqual(places[at + 1], levels[:-1] + ((j, number + 1, base, holder), (value[1], 0, start, where)))
        else:
            self.assertEqual(fast, ("send", name, many))

    def test_worlds(self):
        entered = 0
        for seed in range(100):
            machine = FastMachine(compile_text(world_text(seed)))
            for _ in range(400):
                machine.tick()
            for j in range(len(machine.code[0])):
                entered += self.check(machine, j)
        self.assertGreater(entered, 50)

    def test_heights_of_words(self):
        # The words of each fast frame are the places and stacks of its levels, and no more.
        for seed in range(40):
            machine = FastMachine(compile_text(world_text(seed)))
            while machine.end is None and machine.ticks < 300:
                if machine.ticks % 50 == 49:
                    do_deed(machine, ("compile all",))
                machine.tick()
                last = machine.frames[-1] if machine.frames else ("plain",)
                if last[0] == "fast":
                    levels = last[1][2][last[2]]
                    j, row, base, _ = levels[-1]
                    _, many, _, rows = machine.code[0][j]
                    self.assertEqual(len(last[5]), base + 1 + many + heights(rows)[row])
                    self.assertNotIn(None, last[5] + (NOTHING,))


if __name__ == "__main__":
    unittest.main()
