"""Part 10: running with ticks and schedules, texts, and states that are the same."""

import unittest

from machines import END, LOBBY_SLOT, ONE, TWO, method, num, program, push, ref
from reaimed.emit import compile_text
from reaimed.errors import BadCharacter, BadNumber, DoubleName, Unexpected, UnknownName
from reaimed.fast import FastMachine
from reaimed.plain import PlainMachine
from reaimed.run import run_fast, run_plain, run_text, same_state
from values import kinds_in

COUNT = "main { let i = 0; while i < 5 { i := i + 1; print i; } }"
CALLS = ("method m(a) { let b = object { }; return n(a) + 1; } method n(a) { return a * 2; } method k() { return fn () { 1; }; }"
         "main { let i = 0; while i < 5 { i := i + 1; print m(i); k(); } }")
MAIN, M, N, K, BLOCK = 0, 1, 2, 3, 4


class TestInterface(unittest.TestCase):
    def test_names(self):
        for function in (run_plain, run_fast, run_text, same_state):
            self.assertEqual(function.__module__, "reaimed.run")
        code = compile_text(COUNT)
        plain = run_plain(code=code, ticks=3)
        fast = run_fast(code=code, schedule=[], ticks=3)
        self.assertEqual((plain.__class__, fast.__class__), (PlainMachine, FastMachine))
        self.assertIs(same_state(fast=fast, plain=plain), True)
        self.assertEqual(run_text(text="main { print 1; }", schedule=[], ticks=9), ((("print", ONE),), ("done",)))


class TestRunPlain(unittest.TestCase):
    def test_ticks(self):
        code = compile_text(COUNT)
        for ticks in (0, 1, 2, 30):
            machine = run_plain(code, ticks)
            self.assertEqual((machine.ticks, machine.end), (ticks, None))
            other = PlainMachine(code)
            for _ in range(ticks):
                other.tick()
            self.assertEqual(machine.state(), other.state())

    def test_an_end(self):
        code = compile_text("main { print 1; }")
        for ticks, done, end in ((3, 3, None), (4, 4, ("done",)), (5, 4, ("done",)), (10 ** 9, 4, ("done",))):
            machine = run_plain(code, ticks)
            self.assertEqual((machine.ticks, machine.end), (done, end))
        self.assertEqual(run_plain(compile_text("main { 1 div 0; }"), 99).end, ("error", "division"))


class TestSchedules(unittest.TestCase):
    def run_with(self, *schedule, ticks=10 ** 6, text=CALLS):
        code = compile_text(text)
        schedule = list(schedule)
        before = list(schedule)
        machine = run_fast(code, schedule, ticks)
        self.assertEqual(schedule, before)
        plain = run_plain(code, ticks)
        self.assertTrue(same_state(machine, plain))
        self.assertEqual((machine.ticks, machine.events, machine.end), (plain.ticks, plain.events, plain.end))
        return machine

    def fast(self, machine):
        return [j for j in range(len(machine.code[0])) if machine.is_fast(j)]

    def test_no_deeds(self):
        machine = self.run_with()
        self.assertEqual((machine.end, machine.placed, self.fast(machine)), (("done",), 0, []))
        for ticks in (0, 1, 7, 50):
            self.assertEqual(self.run_with(ticks=ticks).ticks, ticks)

    def test_compile(self):
        for j in (MAIN, M, N, K, BLOCK):
            machine = self.run_with((0, ("compile", j)), ticks=30)
            self.assertEqual(self.fast(machine), [] if j == K else [j])

    def test_compile_all(self):
        self.assertEqual(self.fast(self.run_with((0, ("compile all",)), ticks=30)), [MAIN, M, N, BLOCK])
        machine = self.run_with((100, ("compile all",)))
        self.assertGreater(machine.placed, 0)

    def test_take_back(self):
        machine = self.run_with((0, ("compile all",)), (20, ("take back", N)), (20, ("take back", K)), ticks=30)
        self.assertEqual(self.fast(machine), [MAIN, M, BLOCK])

    def test_forget(self):
        machine = self.run_with((0, ("compile all",)), (90, ("forget",)), ticks=91)
        self.assertEqual(self.fast(machine), [])
        self.assertLess(machine.caches.misses, machine.searches)

    def test_collect(self):
        code = compile_text(CALLS)
        machine = self.run_with((120, ("collect",)))
        self.assertEqual(machine.objects.ids(), [0, 4, 5])
        machine = self.run_with((130, ("collect",)), ticks=131)
        self.assertLess(len(machine.objects.ids()), len(run_plain(code, 131).objects.ids()))

    def test_ticks_of_deeds(self):
        # A deed is done before the tick with its number, so one more tick decides.
        for tick in (0, 1, 25):
            self.assertEqual(self.fast(self.run_with((tick, ("compile", M)), ticks=tick)), [])
            self.assertEqual(self.fast(self.run_with((tick, ("compile", M)), ticks=tick + 1)), [M])

    def test_the_tick_of_a_deed_is_exact(self):
        code = compile_text(CALLS)
        for tick in range(0, 140):
            machine = self.run_with((tick, ("compile all",)), (tick + 7, ("forget",)), (tick + 9, ("compile", M)), ticks=170)
            other = FastMachine(code)
            while other.end is None and other.ticks < 170:
                if other.ticks == tick:
                    for j in range(5):
                        other.prepare(j)
                if other.ticks == tick + 7:
                    other.forget()
                if other.ticks == tick + 9:
                    other.prepare(M)
                other.tick()
            self.assertEqual((machine.frames, machine.searches, machine.placed), (other.frames, other.searches, other.placed))

    def test_deeds_of_one_tick_in_their_order(self):
        machine = self.run_with((9, ("compile", M)), (9, ("take back", M)), ticks=10)
        self.assertEqual(self.fast(machine), [])
        machine = self.run_with((9, ("take back", M)), (9, ("compile", M)), ticks=10)
        self.assertEqual(self.fast(machine), [M])
        machine = self.run_with((9, ("compile", M)), (9, ("forget",)), (9, ("compile", N)), ticks=10)
        self.assertEqual(self.fast(machine), [N])

    def test_a_schedule_in_any_order(self):
        machine = self.run_with((20, ("take back", M)), (5, ("compile", M)), (5, ("compile", N)), (0, ("take back", N)), ticks=30)
        self.assertEqual(self.fast(machine), [N])
        machine = self.run_with((20, ("compile", M)), (5, ("take back", M)), ticks=30)
        self.assertEqual(self.fast(machine), [M])

    def test_indexes_that_do_not_exist(self):
        deeds = [(tick, (word, j)) for tick in (0, 3) for word in ("compile", "take back") for j in (-1, -5, 5, 6, 10 ** 9)]
        self.assertEqual(self.fast(self.run_with(*deeds, ticks=30)), [])
        deeds = [(0, ("compile all",))] + deeds
        self.assertEqual(self.fast(self.run_with(*deeds, ticks=30)), [MAIN, M, N, BLOCK])

    def test_deeds_that_are_not_reached(self):
        machine = self.run_with((-1, ("compile", M)), (30, ("compile", M)), (10 ** 9, ("compile", M)), ticks=30)
        self.assertEqual(self.fast(machine), [])

    def test_deeds_behind_the_end(self):
        ticks = run_plain(compile_text(CALLS), 10 ** 6).ticks
        self.assertEqual(self.fast(self.run_with((ticks - 1, ("compile", M)))), [M])
        machine = self.run_with((ticks, ("compile", M)), (ticks + 1, ("compile", N)), ticks=ticks + 50)
        self.assertEqual((self.fast(machine), machine.ticks, machine.end), ([], ticks, ("done",)))

    def test_no_ticks(self):
        machine = self.run_with((0, ("compile all",)), ticks=0)
        self.assertEqual((machine.ticks, self.fast(machine)), (0, []))


class TestRunText(unittest.TestCase):
    def test_events_and_ends(self):
        pair = run_text(COUNT, [(3, ("compile all",)), (9, ("collect",))], 10 ** 6)
        self.assertEqual(pair, (tuple(("print", num(n)) for n in range(1, 6)), ("done",)))
        self.assertEqual(kinds_in(pair), {tuple, str, int})
        self.assertEqual(run_text("main { print 1; print 2 + nothing; print 3; }", [], 99), (
            (("print", ONE),), ("error", "number")))

    def test_no_end_yet(self):
        self.assertEqual(run_text("main { print 1; print 2; }", [], 0), ((), None))
        self.assertEqual(run_text("main { print 1; print 2; }", [], 2), ((("print", ONE),), None))
        self.assertEqual(run_text("main { while true { } }", [], 1000), ((), None))

    def test_errors(self):
        for text, error in (("main { ? }", BadCharacter), ("main { 01; }", BadNumber), ("main { 1 }", Unexpected), ("", Unexpected),
                            ("main { let a = 1; let a = 2; }", DoubleName), ("main { a := 1; }", UnknownName)):
            with self.assertRaises(error):
                run_text(text, [], 0)

    def test_errors_in_their_order(self):
        with self.assertRaises(BadNumber):
            run_text("main { a := 1; } 01", [], 5)
        with self.assertRaises(Unexpected):
            run_text("main { a := 1; } 1", [], 5)
        with self.assertRaises(UnknownName) as caught:
            run_text("main { a := 1; let b = 1; let b = 2; }", [], 5)
        self.assertEqual(caught.exception.name, "a")


class TestSameState(unittest.TestCase):
    TEXT = ("method k(a) { return fn () { a; }; } main { let a = object { const x = 1; }; a := object { var y = 2; };"
            " let f = k(1); f := k(2); print 5; print f.call(); }")

    def pair(self, ticks):
        code = compile_text(self.TEXT)
        fast, plain = run_fast(code, [], ticks), run_plain(code, ticks)
        self.assertEqual(fast.state(), plain.state())
        self.assertEqual((len(plain.objects.ids()), len(plain.scopes), len(plain.blocks)), (3, 2, 2))
        self.assertIsNone(plain.end)
        return fast, plain

    def same(self, fast, plain, result):
        states = (fast.state(), plain.state())
        self.assertIs(same_state(fast, plain), result)
        self.assertEqual((fast.state(), plain.state()), states)

    def setUp(self):
        machine = run_plain(compile_text(self.TEXT), 10 ** 6)
        self.assertEqual(machine.end, ("done",))
        # The first ticks in which both blocks and both objects are there, and the first ones are not live.
        self.ticks = machine.ticks - 4
        self.fast, self.plain = self.pair(self.ticks)

    def test_equal_states(self):
        self.same(self.fast, self.plain, True)
        code = compile_text(self.TEXT)
        for ticks in range(60):
            self.same(run_fast(code, [], ticks), run_plain(code, ticks), True)

    def test_unlike_ticks(self):
        code = compile_text(self.TEXT)
        for ticks in range(self.ticks):
            self.same(run_fast(code, [], ticks), run_plain(code, ticks + 1), False)
            self.same(run_fast(code, [], ticks + 1), run_plain(code, ticks), False)

    def test_missing_things_that_cannot_be_reached(self):
        self.fast.collect()
        self.assertEqual((self.fast.objects.ids(), list(self.fast.scopes), list(self.fast.blocks)), ([0, 2], [1], [1]))
        self.same(self.fast, self.plain, True)

    def test_each_thing_that_is_missing(self):
        for field in ("scopes", "blocks"):
            for number, result in ((0, True), (1, False)):
                fast, plain = self.pair(self.ticks)
                if result is False and field == "scopes":
                    # The blocks lead to their scopes.
                    self.assertEqual(fast.blocks[1][3], 1)
                del getattr(fast, field)[number]
                self.same(fast, plain, result)
        for kept, result in (([0, 2], True), ([0, 1], False), ([1, 2], False), ([0], False), ([0, 1, 2], True)):
            fast, plain = self.pair(self.ticks)
            fast.objects.keep(kept)
            self.same(fast, plain, result)

    def test_things_that_the_plain_one_has_not(self):
        for name in ("objects", "scopes", "blocks"):
            fast, plain = self.pair(self.ticks)
            if name == "objects":
                plain.objects.keep([0, 2])
            else:
                del getattr(plain, name)[0]
            self.same(fast, plain, False)
            fast.collect()
            self.same(fast, plain, True)
        self.fast.objects.make(())
        self.same(self.fast, self.plain, False)
        self.plain.objects.make(())
        self.same(self.fast, self.plain, True)

    def test_the_same_things_with_other_parts(self):
        # Also of things that cannot be reached: they are not missing.
        for number in (0, 1, 2):
            fast, plain = self.pair(self.ticks)
            fast.objects.put(number, "q", "var", ONE)
            self.same(fast, plain, False)
            plain.objects.put(number, "q", "var", TWO)
            self.same(fast, plain, False)
            plain.objects.put(number, "q", "var", ONE)
            self.same(fast, plain, True)
        for number in (0, 1):
            fast, plain = self.pair(self.ticks)
            fast.scopes[number] = (-1, (num(77),))
            self.same(fast, plain, False)
            fast, plain = self.pair(self.ticks)
            fast.blocks[number] = fast.blocks[number][:4] + (77,)
            self.same(fast, plain, False)

    def test_order_of_slots(self):
        code = program(method(0, 0, *END))
        fast, plain = run_fast(code, [], 0), run_plain(code, 0)
        for machine, names in ((fast, "ab"), (plain, "ba")):
            for name in names:
                machine.objects.put(0, name, "var", ONE)
        self.same(fast, plain, False)
        self.assertEqual(plain.objects.slots(0)[0], LOBBY_SLOT)

    def test_unlike_frames_events_and_ends(self):
        code = program(method(0, 0, push(1), ("print",), *END))
        for field, value in (("frames", []), ("events", [("print", TWO)]), ("end", ("done",)), ("events", [])):
            fast, plain = run_fast(code, [], 3), run_plain(code, 3)
            self.same(fast, plain, True)
            setattr(fast, field, value)
            self.same(fast, plain, False)
            setattr(plain, field, value)
            self.same(fast, plain, True)

    def test_fast_frames_count_as_their_plain_ones(self):
        code = compile_text(CALLS)
        for ticks in range(100, 150):
            fast, plain = run_fast(code, [(60, ("compile all",))], ticks), run_plain(code, ticks)
            self.same(fast, plain, True)
            fast.frames[0] = fast.frames[0][:3] + (ref(1),) + fast.frames[0][4:]
            self.same(fast, plain, False)


if __name__ == "__main__":
    unittest.main()
