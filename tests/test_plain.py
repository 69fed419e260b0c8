"""Points 4.1 to 4.7: how a machine begins, its frames, scopes and blocks, and what each row does."""

import unittest

from machines import (
    END, FALSE, LOBBY, LOBBY_SLOT, NOTHING, ONE, TRUE, TWO, MachineCase, method, num, program, push, ref)
from reaimed.objects import Objects
from reaimed.plain import PlainMachine
from values import kinds_in


class TestInterface(MachineCase):
    def test_names(self):
        self.assertEqual(PlainMachine.__module__, "reaimed.plain")
        for name in ("tick", "keep", "state"):
            self.assertIn(name, vars(PlainMachine))
        self.assertIsNone(PlainMachine(code=program(method(0, 0, *END))).end)

    def test_example_of_the_document(self):
        code = (((0, 0, False, (("push", ("num", 2)), ("print",), ("push", ("nothing",)), ("return",))),), 0)
        machine = PlainMachine(code)
        for number in range(4):
            self.assertIsNone(machine.end)
            self.assertEqual(machine.ticks, number)
            self.assertIsNone(machine.tick())
        self.assertEqual((machine.end, machine.events, machine.ticks), (("done",), [("print", ("num", 2))], 4))
        self.assertEqual(machine.frames, [])

    def test_kinds_of_values(self):
        machine = self.text("object o { } main { let a = fn (x) { return x; }; print a; }", 7)
        self.assertEqual(kinds_in(machine.state()), {tuple, str, int, None.__class__})
        self.assertIsNone(machine.state()[5])
        for field, kind in (("scopes", dict), ("blocks", dict), ("frames", list), ("events", list), ("ticks", int),
                            ("objects", Objects), ("code", tuple)):
            self.assertEqual(getattr(machine, field).__class__, kind, field)


class TestBeginning(MachineCase):
    def test_main_that_is_not_captured(self):
        code = program(method(0, 2, *END))
        machine = PlainMachine(code)
        self.assertEqual(machine.code, code)
        self.assertEqual(machine.frames, [("method", 0, 0, LOBBY, 0, ("locals", (NOTHING, NOTHING), -1), (), 0)])
        self.assertEqual((machine.scopes, machine.blocks, machine.events), ({}, {}, []))
        self.assertEqual((machine.end, machine.ticks), (None, 0))
        self.assertEqual(machine.objects.image(), ((0, (LOBBY_SLOT,)),))

    def test_main_that_is_captured(self):
        machine = self.started(method(0, 1, ("block", 1), ("return",)), method(0, 0, *END))
        self.assertEqual(machine.frames, [("method", 0, 0, LOBBY, 0, ("scope", 0), (), 1)])
        self.assertEqual(machine.scopes, {0: (-1, (NOTHING,))})

    def test_main_with_another_index(self):
        machine = self.started(method(1, 1, *END), method(0, 3, *END), main=1)
        self.assertEqual(machine.frames, [("method", 1, 0, LOBBY, 0, ("locals", (NOTHING,) * 3, -1), (), 0)])

    def test_two_machines_are_apart(self):
        code = program(method(0, 0, ("object", ()), ("print",), *END))
        one, other = PlainMachine(code), PlainMachine(code)
        before = other.state()
        self.go(one, 3)
        self.assertEqual(other.state(), before)
        self.assertEqual(one.code, other.code)


class TestState(MachineCase):
    def test_parts(self):
        machine = self.text("main { let a = fn () { 1; }; print a; print object { const x = a; }; }", 8)
        self.assertEqual(machine.state(), (
            tuple(machine.frames), machine.objects.image(), ((0, (-1, (("block", 0),))),),
            ((0, (1, LOBBY, 0, 0, 1)),), (("print", ("block", 0)), ("print", ref(1))), None))

    def test_ascending(self):
        text = "method m(a) { return fn () { a; }; } main { let a = m(1); let b = m(2); print fn () { 3; }; }"
        machine = self.run_whole(self.text(text))
        machine.scopes[0] = machine.scopes.pop(0)
        machine.blocks[0] = machine.blocks.pop(0)
        frames, _, scopes, blocks, _, end = machine.state()
        self.assertEqual((frames, end), ((), ("done",)))
        self.assertEqual([scope for scope, _ in scopes], [0, 1, 2])
        self.assertEqual([block for block, _ in blocks], [0, 1, 2])

    def test_a_state_stays_as_it_is(self):
        machine = self.text("main { let a = fn () { 1; }; a.call(); print a; print object { }; }")
        states = []
        while machine.end is None:
            states.append((machine.state(), repr(machine.state())))
            machine.tick()
        for state, image in states:
            self.assertEqual(repr(state), image)
        self.assertEqual(len({image for _, image in states}), len(states))


class RowCase(MachineCase):
    def step(self, machine):
        """One tick that has no error: the values of the last frame's stack behind it."""
        ticks, row = machine.ticks, machine.frames[-1][2]
        machine.tick()
        self.assertIsNone(machine.end)
        self.assertEqual(machine.ticks, ticks + 1)
        self.assertEqual(machine.frames[-1][2], row + 1)
        return machine.frames[-1][6]

    def stacks(self, machine, many):
        return [self.step(machine) for _ in range(many)]


class TestSimpleRows(RowCase):
    def test_push(self):
        machine = self.started(method(0, 0, push(7), push("true"), push("false"), push("nothing"), ("return",)))
        self.assertEqual(self.stacks(machine, 4)[-1], (num(7), TRUE, FALSE, NOTHING))

    def test_self_and_pop(self):
        machine = self.started(method(0, 0, push(7), ("self",), ("pop",), ("pop",), *END))
        self.assertEqual(self.stacks(machine, 4), [(num(7),), (num(7), LOBBY), (num(7),), ()])

    def test_locals(self):
        rows = (push(7), ("set", 1), ("local", 0), ("local", 1), ("set", 0), ("local", 0))
        machine = self.started(method(0, 3, *rows, ("return",)))
        self.assertEqual(self.stacks(machine, 6), [
            (num(7),), (), (NOTHING,), (NOTHING, num(7)), (NOTHING,), (NOTHING, num(7))])
        self.assertEqual(machine.frames[-1][5], ("locals", (num(7), num(7), NOTHING), -1))
        self.assertEqual(machine.scopes, {})

    def test_locals_in_a_scope(self):
        rows = (push(7), ("set", 1), ("local", 0), ("local", 1), ("set", 0), ("local", 0), ("block", 0))
        machine = self.started(method(0, 3, *rows, ("return",)))
        self.assertEqual(self.stacks(machine, 6)[-1], (NOTHING, num(7)))
        self.assertEqual(machine.frames[-1][5], ("scope", 0))
        self.assertEqual(machine.scopes, {0: (-1, (num(7), num(7), NOTHING))})

    def test_method(self):
        machine = self.started(method(0, 0, ("method", 1), ("return",)), method(0, 0, *END))
        self.assertEqual(self.step(machine), (("method", 1),))

    def test_jumps(self):
        machine = self.started(method(0, 0, ("jump", 3), *END, push(5), ("print",), ("jump", 1)))
        self.go(machine, 1)
        self.assertEqual(machine.frames[-1][2], 3)
        self.go(machine, 3)
        self.assertEqual(machine.frames[-1][2], 1)

    def test_jumpno(self):
        for word, row in (("true", 3), ("false", 5)):
            machine = self.started(method(0, 0, push(9), push(word), ("jumpno", 5), ("pop",), push(1), ("return",)), many=3)
            self.assertEqual((machine.frames[-1][2], machine.frames[-1][6]), (row, (num(9),)))

    def test_prim(self):
        machine = self.started(method(0, 0, push(9), push(7), push(2), ("prim", "-"), ("prim", "=="), ("return",)))
        self.assertEqual(self.stacks(machine, 5)[-2:], [(num(9), num(5)), (FALSE,)])

    def test_print(self):
        machine = self.started(method(0, 0, push(9), push(7), ("print",), ("print",), *END))
        self.assertEqual(self.stacks(machine, 4)[-2:], [(num(9),), ()])
        self.assertEqual(machine.events, [("print", num(7)), ("print", num(9))])

    def test_object(self):
        pairs = (("x", "const"), ("p", "parent"), ("m", "method"), ("v", "var"), ("q", "varparent"))
        rows = (push(9), push(1), ("self",), ("method", 0), push(2), push("true"), ("object", pairs), ("object", ()))
        machine = self.started(method(0, 0, *rows, ("return",)))
        self.assertEqual(self.stacks(machine, 8)[-2:], [(num(9), ref(1)), (num(9), ref(1), ref(2))])
        self.assertEqual(machine.objects.slots(1), (
            ("x", "const", ONE), ("p", "parent", LOBBY), ("m", "method", ("method", 0)), ("v", "var", TWO),
            ("q", "varparent", TRUE)))
        self.assertEqual(machine.objects.slots(2), ())

    def test_object_with_one_name_twice(self):
        rows = (push(1), push(2), push(7), ("object", (("x", "const"), ("y", "const"), ("x", "var"))), ("return",))
        machine = self.started(method(0, 0, *rows), many=4)
        self.assertEqual(machine.objects.slots(1), (("x", "var", num(7)), ("y", "const", TWO)))


class TestChangingRows(RowCase):
    def test_put(self):
        rows = (push(9), ("self",), push(1), ("put", "x", "var"), ("self",), push(2), ("put", "x", "const"), *END)
        machine = self.started(method(0, 0, *rows[:-2], ("return",)))
        self.assertEqual(self.stacks(machine, 4)[-1], (num(9),))
        self.assertEqual(machine.objects.slots(0), (LOBBY_SLOT, ("x", "var", ONE)))
        self.assertEqual(self.stacks(machine, 3)[-1], (num(9),))
        self.assertEqual(machine.objects.slots(0), (LOBBY_SLOT, ("x", "const", TWO)))

    def test_put_into_the_receiver_alone(self):
        rows = (("self",), ("object", (("p", "parent"),)), push(2), ("put", "lobby", "parent"), *END)
        machine = self.started(method(0, 0, *rows), many=4)
        self.assertEqual(machine.objects.slots(0), (LOBBY_SLOT,))
        self.assertEqual(machine.objects.slots(1), (("p", "parent", LOBBY), ("lobby", "parent", TWO)))

    def test_drop(self):
        machine = self.started(method(0, 0, push(9), ("self",), ("drop", "lobby"), ("return",)))
        self.assertEqual(self.stacks(machine, 3)[-1], (num(9),))
        self.assertEqual(machine.objects.slots(0), ())

    def test_assign(self):
        rows = (("self",), push(1), ("put", "x", "var"), ("self",), push(1), ("put", "q", "varparent"), ("self",),
                ("object", (("p", "parent"),)), push(2), ("assign", "x"), ("self",), push("true"), ("assign", "q"),
                push(9), ("return",))
        machine = self.started(method(0, 0, *rows))
        self.assertEqual(self.stacks(machine, 10)[-1], ())
        self.assertEqual(machine.objects.slots(0), (LOBBY_SLOT, ("x", "var", TWO), ("q", "varparent", ONE)))
        self.assertEqual(machine.objects.slots(1), (("p", "parent", LOBBY),))
        self.stacks(machine, 3)
        self.assertEqual(machine.objects.slots(0), (LOBBY_SLOT, ("x", "var", TWO), ("q", "varparent", TRUE)))


class TestSends(RowCase):
    def before(self, kind, value_rows, *rows, methods=()):
        """A machine with a slot s of the lobby and an object 1 below it, then these rows."""
        start = (("self",), *value_rows, ("put", "s", kind), push(9), ("self",), ("object", (("p", "parent"),)))
        machine = self.started(method(0, 0, *start, *rows, ("return",)), *methods)
        return self.go(machine, len(start) + len(rows) - 1)

    def test_data(self):
        for kind in ("const", "var", "parent", "varparent", "method"):
            for rows, value in (((push(5),), num(5)), ((("self",),), LOBBY)):
                machine = self.before(kind, rows, ("send", "s", 0))
                self.assertEqual(self.step(machine), (num(9), value))

    def test_methods_in_slots_of_other_kinds_are_data(self):
        for kind in ("const", "var", "parent", "varparent"):
            machine = self.before(kind, (("method", 1),), ("send", "s", 0), methods=(method(0, 0, *END),))
            self.assertEqual(self.step(machine), (num(9), ("method", 1)))

    def test_methods(self):
        two = method(2, 4, ("local", 0), ("return",))
        machine = self.before("method", (("method", 1),), push(1), push(2), ("send", "s", 2), methods=(two,))
        below = machine.frames[0]
        machine.tick()
        self.assertEqual(machine.frames, [
            below[:2] + (below[2] + 1,) + below[3:6] + ((num(9),), 0),
            ("method", 1, 0, ref(1), 0, ("locals", (ONE, TWO, NOTHING, NOTHING), -1), (), 0)])
        self.go(machine, 2)
        self.assertEqual([frame[6] for frame in machine.frames], [(num(9), ONE)])

    def test_captured_methods(self):
        one = method(1, 2, ("block", 2), ("return",))
        machine = self.before("method", (("method", 1),), push(1), ("send", "s", 1), methods=(one, method(0, 0, *END)))
        machine.tick()
        self.assertEqual(machine.frames[-1], ("method", 1, 0, ref(1), 0, ("scope", 0), (), 1))
        self.assertEqual(machine.scopes, {0: (-1, (ONE, NOTHING))})
        self.assertEqual(self.step(machine), (("block", 0),))
        self.assertEqual(machine.blocks, {0: (2, ref(1), 0, 0, 1)})

    def test_blocks_in_slots_are_data(self):
        for kind in ("const", "method"):
            machine = self.started(
                method(0, 0, ("self",), ("block", 1), ("put", "s", kind), push(9), ("self",), ("send", "s", 0), ("return",)),
                method(0, 0, *END), many=5)
            self.assertEqual(self.step(machine), (num(9), ("block", 0)))

    def test_holders(self):
        rows = (("send", "lobby", 0), ("pop",), ("self",), ("method", 1), ("put", "t", "method"), ("self",),
                ("object", (("p", "parent"),)), ("object", (("p", "parent"),)), ("send", "t", 0), ("return",))
        machine = self.started(method(0, 0, ("self",), *rows), method(0, 0, *END), many=10)
        self.assertEqual(machine.frames[-1][3:5], (ref(2), 0))
        machine = self.started(method(0, 0, ("method", 1), ("object", (("t", "method"),)), ("object", (("p", "parent"),)),
                                      ("send", "t", 0), ("return",)), method(0, 0, *END), many=4)
        self.assertEqual(machine.frames[-1][3:5], (ref(2), 1))

    def test_searches(self):
        self.check_text("object o { parent p = lobby; const x = 1; } object q { parent p = o; const y = 2; }"
                        " main { print q.x() + q.y(); print q.o() == o; print q.q() == q; }", 3, "true", "true")
        self.check_text("object o { const x = 1; } object q { parent p = object { const x = 2; }; parent r = o; }"
                        " main { print o.x(); print q.x(); }", 1, end=("error", "several"))

    def test_long_chains(self):
        text = ("object o { const x = 7; } method pair(p) { return object { parent q = p; }; } main { let a = o; let i = 0;"
                " while i < 3000 { a := pair(a); i := i + 1; } print a.x(); print a.y(); }")
        self.check_text(text, 7, end=("error", "none"))


class TestResends(RowCase):
    TEXT = """
        object top { method m() { return 1; } const d = 2; method two(a, b) { return a - b; } method who() { return self; } }
        object mid { parent p = top; method m() { return resend m() + 10; } const d = 3; method e() { return resend d(); }
            method two(a, b) { return resend two(b, a); } method who() { return resend who(); } }
        object low { parent p = mid; method m() { return resend m() + 100; } }
    """

    def test_behind_the_holder(self):
        self.check_text(self.TEXT + "main { print low.m(); print mid.m(); print top.m(); }", 111, 11, 1)

    def test_data_and_arguments(self):
        self.check_text(self.TEXT + "main { print low.d(); print low.e(); print mid.two(9, 5); }", 3, 2, -4)

    def test_self_stays(self):
        self.check_text(self.TEXT + "main { print low.who() == low; print mid.who() == mid; }", "true", "true")

    def test_frames(self):
        machine = self.text(self.TEXT + "main { low.m(); }")
        while len(machine.frames) < 4:
            machine.tick()
        low, mid, top = [machine.objects.slot(0, name)[1] for name in ("low", "mid", "top")]
        self.assertEqual([frame[3:5] for frame in machine.frames], [
            (LOBBY, 0), (low, low[1]), (low, mid[1]), (low, top[1])])

    def test_in_main(self):
        self.check_text("object o { const x = 5; } main { put self.p parent = o; print resend x(); }", 5)
        self.check_text("main { put self.x const = 5; print x; print resend x(); }", 5, end=("error", "none"))

    def test_in_a_block(self):
        self.check_text(
            "object top { method m(a) { return a + 1; } }"
            "object low { parent p = top; method m(a) { return fn (b) { resend m(b) * 10; }; } }"
            "object other { method run(f) { return f.call(4); } } main { print other.run(low.m(0)); }", 50)

    def test_a_ring_leads_back_to_the_holder(self):
        text = ("object a { method m(n) { if n == 0 { return 5; } return resend m(n - 1); } }"
                "main { put a.p parent = a; print a.m(3); }")
        self.check_text(text, 5)

    def test_a_slot_may_be_dropped_meanwhile(self):
        text = ("object top { const x = 1; } object low { parent p = top; method x() { drop self.x; return resend x(); } }"
                "main { print low.x(); print low.x(); }")
        self.check_text(text, 1, 1)

    def test_the_holder_is_gone(self):
        text = "object top { const x = 1; } object low { parent p = top; method x() { return resend x(); } } main { print low.x(); }"
        machine = self.text(text)
        while len(machine.frames) < 2:
            machine.tick()
        low = machine.frames[-1][4]
        machine.keep([number for number in machine.objects.ids() if number != low], [], [])
        frames = list(machine.frames)
        self.go(machine, 1)
        self.assertEqual((machine.end, machine.frames), (("error", "none"), frames))


class TestCalls(RowCase):
    def test_arguments_and_results(self):
        self.check_text("main { let f = fn (a, b) { return a - b; }; print 1 + 0 * 2; }", 1)
        self.check_text("main { let f = fn (a, b) { a - b; }; print f.call(9, 4); print f.call(1, 2); }", 5, -1)
        self.check_text("main { let f = fn () { let x = 3; x := x + 1; }; print f.call(); }", "nothing")

    def test_frames(self):
        machine = self.text("main { let f = fn (a) { let b = 2; a; }; f.call(7); }", 5)
        before = machine.frames[0]
        self.assertEqual(before[6], (("block", 0), num(7))[:len(before[6])])
        while len(machine.frames) == 1:
            machine.tick()
        self.assertEqual(machine.frames[-1], ("block", 1, 0, LOBBY, 0, ("locals", (num(7), NOTHING), 0), (), 1))
        self.assertEqual(machine.frames[0][6], ())

    def test_frames_of_captured_blocks(self):
        machine = self.text("main { let f = fn (a) { let b = fn () { a; }; b.call(); }; f.call(7); }")
        while len(machine.frames) < 2:
            machine.tick()
        self.assertEqual(machine.frames[-1], ("block", 1, 0, LOBBY, 0, ("scope", 1), (), 1))
        self.assertEqual(machine.scopes[1], (0, (num(7), NOTHING)))
        while len(machine.frames) < 3:
            machine.tick()
        self.assertEqual(machine.frames[-1], ("block", 2, 0, LOBBY, 0, ("locals", (), 1), (), 1))
        self.assertEqual(machine.blocks, {0: (1, LOBBY, 0, 0, 1), 1: (2, LOBBY, 0, 1, 1)})

    def test_self_and_holder_are_those_of_the_maker(self):
        text = ("object top { method m() { return fn () { self; }; } } object low { parent p = top; }"
                "main { let f = low.m(); print f.call() == low; }")
        self.check_text(text, "true")
        machine = self.text(text)
        while not machine.blocks:
            machine.tick()
        low, top = [machine.objects.slot(0, name)[1] for name in ("low", "top")]
        self.assertEqual(machine.blocks, {0: (2, low, top[1], 0, 1)})
        while machine.frames[-1][0] != "block":
            machine.tick()
        self.assertEqual(machine.frames[-1][3:5], (low, top[1]))

    def test_outer_places(self):
        self.check_text(
            "main { let a = 1; let f = fn (b) { let g = fn (c) { a := a + b; b := b + c; a * 100 + b * 10 + c; };"
            " print g.call(1); print g.call(2); b; }; print f.call(3); print a; }", 441, 862, 6, 8)

    def test_outer_rows(self):
        inner = method(0, 0, ("outer", 2, 1), ("setouter", 1, 0), ("outer", 1, 0), ("return",))
        outer = method(0, 1, ("block", 2), ("call", 0), ("return",))
        machine = self.started(method(0, 2, push(5), ("set", 1), ("block", 1), ("call", 0), ("return",)), outer, inner, many=6)
        self.assertEqual(self.step(machine), (num(5),))
        self.step(machine)
        self.assertEqual(machine.scopes, {0: (-1, (NOTHING, num(5))), 1: (0, (num(5),))})
        self.assertEqual(self.step(machine), (num(5),))

    def test_setouter_takes_the_top(self):
        inner = method(0, 0, push(1), push(2), push(3), ("setouter", 1, 0), ("home",))
        machine = self.started(method(0, 1, ("block", 1), ("call", 0), ("return",)), inner, many=6)
        self.assertEqual((machine.scopes, machine.frames[-1][6]), ({0: (-1, (num(3),))}, (ONE, TWO)))

    def test_outer_rows_of_a_captured_code(self):
        inner = method(0, 1, ("outer", 1, 0), ("setouter", 1, 1), ("block", 1), ("return",))
        machine = self.started(method(0, 2, push(5), ("set", 0), ("block", 1), ("call", 0), ("return",)), inner, many=6)
        self.assertEqual(machine.scopes, {0: (-1, (num(5), num(5))), 1: (0, (NOTHING,))})

    def test_a_scope_for_each_frame(self):
        self.check_text(
            "method count(n) { return fn () { n := n + 1; n; }; }"
            "main { let a = count(10); let b = count(20); print a.call(); print a.call(); print b.call(); print a.call(); }",
            11, 12, 21, 13)

    def test_deep_frames(self):
        text = "method m(n) { if n == 0 { return 0; } return m(n - 1) + 1; } main { print m(3000); }"
        self.check_text(text, 3000)

    def test_deep_scopes(self):
        text = ("main { let n = 0; let f = fn (k) { nothing; }; let g = fn (h) { fn (k) { n := n + 1; h.call(k); }; };"
                " let i = 0; while i < 1000 { f := g.call(f); i := i + 1; } f.call(1); print n; }")
        self.check_text(text, 1000)


class TestReturns(RowCase):
    def test_return_to_the_frame_before(self):
        machine = self.started(
            method(0, 0, ("self",), ("method", 1), ("put", "m", "method"), push(4), ("self",), ("send", "m", 0), ("return",)),
            method(0, 0, push(1), push(2), ("return",)), many=8)
        self.assertEqual(len(machine.frames), 2)
        machine.tick()
        self.assertEqual([(frame[2], frame[6]) for frame in machine.frames], [(6, (num(4), TWO))])

    def test_return_of_the_last_frame(self):
        machine = self.started(method(0, 0, push(1), ("return",)), many=2)
        self.assertEqual((machine.end, machine.frames, machine.ticks), (("done",), [], 2))

    def test_home_returns(self):
        text = ("method each(f) { f.call(1); f.call(2); return 9; }"
                "method find(k) { each(fn (a) { if a == k { return a * 10; } }); return 0; }"
                "main { print find(1); print find(2); print find(3); }")
        self.check_text(text, 10, 20, 0)

    def test_home_of_main(self):
        machine = self.text("method run(f) { f.call(); print 1; } main { run(fn () { return 5; }); print 2; }")
        self.run_whole(machine)
        self.assertEqual((machine.end, machine.frames, machine.events), (("done",), [], []))

    def test_home_out_of_several_frames(self):
        text = ("method deep(n, f) { if n == 0 { f.call(); } else { deep(n - 1, f); } print 0; }"
                "method start() { let f = fn () { fn () { return 7; }; }; deep(2000, f.call()); print 1; }"
                "main { print start() + 1; }")
        self.check_text(text, 8)

    def test_home_is_the_frame_of_the_mark(self):
        # The same method runs twice, and the block belongs to the outer one.
        text = ("method m(n, f) { if n == 0 { f.call(); } if n == 1 { m(0, f); } if n == 2 { m(1, fn () { return 5; }); }"
                " return n; } main { print m(2, nothing); }")
        self.check_text(text, 5)
        text = ("method m(n, f) { let g = fn () { return 10 + n; }; if n == 0 { f.call(); } if n == 1 { print m(0, g); }"
                " return n; } main { print m(1, nothing); }")
        self.check_text(text, 11)

    def test_home_in_a_method_is_a_return_of_its_own_frame(self):
        captured = method(0, 0, ("block", 2), push(3), ("home",))
        machine = self.started(
            method(0, 0, ("self",), ("method", 1), ("put", "m", "method"), ("self",), ("send", "m", 0), ("return",)),
            captured, method(0, 0, *END), many=8)
        self.assertEqual([frame[6] for frame in machine.frames], [(num(3),)])

    def test_marks(self):
        text = ("method m() { return fn () { 1; }; } method n() { return 0; }"
                "main { m(); n(); let f = m(); f.call(); m(); fn () { 2; }; }")
        machine = self.text(text)
        marks = []
        while machine.end is None:
            for frame in machine.frames:
                mark = frame[7]
                if frame[0] == "method" and machine.code[0][frame[1]][2]:
                    self.assertGreater(mark, 0)
                    if mark not in marks:
                        marks.append(mark)
                elif frame[0] == "method":
                    self.assertEqual(mark, 0)
                else:
                    self.assertIn(mark, marks)
            machine.tick()
        self.assertEqual(marks, [1, 2, 3, 4])
        self.assertEqual([block[4] for block in machine.blocks.values()], [2, 3, 4, 1])


class TestEnds(MachineCase):
    def test_an_end_stays(self):
        for rows in ((push(1), ("return",)), (push(1), ("send", "x", 0), ("return",))):
            machine = self.started(method(0, 0, *rows), many=2)
            state = machine.state()
            self.assertIsNotNone(machine.end)
            self.go(machine, 5)
            self.assertEqual((machine.state(), machine.ticks), (state, 2))


class TestKeep(MachineCase):
    TEXT = ("method m(a) { return fn () { a := a + 1; a; }; } main { let a = m(1); let b = m(2); let c = object { };"
            " let d = object { }; print b.call(); print m(3); print object { }; }")

    def ready(self):
        machine = self.text(self.TEXT)
        while len(machine.objects.ids()) < 3:
            machine.tick()
        return machine

    def test_what_is_taken_away(self):
        machine = self.ready()
        frames, events = list(machine.frames), list(machine.events)
        scopes, blocks = dict(machine.scopes), dict(machine.blocks)
        self.assertEqual((sorted(scopes), sorted(blocks)), ([0, 1], [0, 1]))
        lists = ([0, 2], [0], [1])
        self.assertIsNone(machine.keep(*lists))
        self.assertEqual(lists, ([0, 2], [0], [1]))
        self.assertEqual(machine.objects.ids(), [0, 2])
        self.assertEqual((machine.scopes, machine.blocks), ({0: scopes[0]}, {1: blocks[1]}))
        self.assertEqual((machine.frames, machine.events, machine.end), (frames, events, None))

    def test_the_rest_stays(self):
        machine = self.ready()
        before = machine.state()
        machine.keep(machine.objects.ids(), list(machine.scopes), list(machine.blocks))
        self.assertEqual(machine.state(), before)
        machine.keep([77] + machine.objects.ids(), [77] + list(machine.scopes), [77] + list(machine.blocks))
        self.assertEqual(machine.state(), before)

    def test_ids_and_marks_go_on(self):
        machine = self.ready()
        machine.keep([0, 1], [1], [1])
        self.run_whole(machine)
        self.assertEqual(machine.events, [
            ("print", num(3)), ("print", ("block", 2)), ("print", ref(3))])
        self.assertEqual(machine.objects.ids(), [0, 1, 3])
        self.assertEqual(machine.scopes, {1: (-1, (num(3),)), 2: (-1, (num(3),))})
        self.assertEqual(machine.blocks, {1: (2, LOBBY, 0, 1, 2), 2: (2, LOBBY, 0, 2, 3)})

    def test_nothing_is_kept(self):
        machine = self.ready()
        machine.keep([], [], [])
        self.assertEqual((machine.objects.ids(), machine.scopes, machine.blocks), ([], {}, {}))


class TestBehindTheHome(MachineCase):
    def test_blocks_can_be_called(self):
        text = "method m(a) { return fn (b) { a := a + b; a; }; } main { let f = m(5); print f.call(1); print f.call(2); }"
        self.check_text(text, 6, 8)

    def test_home_is_gone(self):
        text = "method m(a) { return fn () { return a; }; } main { let f = m(5); print 1; f.call(); }"
        self.check_text(text, 1, end=("error", "gone"))

    def test_home_is_gone_although_the_method_runs_again(self):
        text = "method m(f) { if f == nothing { return fn () { return 1; }; } f.call(); } main { m(m(nothing)); }"
        self.check_text(text, end=("error", "gone"))


if __name__ == "__main__":
    unittest.main()
