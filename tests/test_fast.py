"""Part 8: ticks of fast frames, what a change takes back, deeds, watching and counts."""

import unittest

from machines import END, LOBBY, NOTHING, ONE, TWO, MachineCase, method, num, program, push, ref
from reaimed.caches import Caches
from reaimed.collect import live
from reaimed.emit import compile_text
from reaimed.fast import FastMachine
from reaimed.objects import Objects
from reaimed.plain import PlainMachine
from reaimed.shapes import Shapes
from values import kinds_in

POINT = """
    object point { var x = 3; const y = 4; method sum() { return x + y; } method twice(n) { return n * 2; }
        method all() { return sum() * 10 + twice(x); } }
    object low { parent p = point; }
"""


class FastCase(MachineCase):
    """A fast machine, and a plain one beside it that does the same ticks."""

    machine = FastMachine

    def begin(self, text):
        return self.begin_code(compile_text(text))

    def begin_code(self, code):
        self.plain = PlainMachine(code)
        self.fast = FastMachine(code)
        self.same()
        return self.fast

    def same(self):
        self.assertEqual(self.fast.state(), self.plain.state())
        self.assertEqual((self.fast.ticks, self.fast.end, self.fast.events),
                         (self.plain.ticks, self.plain.end, self.plain.events))

    def step(self, many=1):
        for _ in range(many):
            self.assertIsNone(self.fast.tick())
            self.plain.tick()
            self.same()

    def until(self, test):
        """Ticks until something holds."""
        for _ in range(3000):
            if test():
                return
            self.step()
        self.fail("it does not come")

    def until_prints(self, many):
        self.until(lambda: len(self.fast.events) >= many)

    def to_end(self):
        self.until(lambda: self.fast.end is not None)

    def deed(self, name, *arguments):
        """A deed, which is no tick and is not seen; what it returns."""
        state, ticks = self.fast.state(), self.fast.ticks
        result = getattr(self.fast, name)(*arguments)
        self.assertEqual((self.fast.state(), self.fast.ticks), (state, ticks))
        self.same()
        return result

    def prepare_all(self):
        return [self.deed("prepare", j) for j in range(len(self.fast.code[0]))]

    def kinds(self):
        return [frame[0] for frame in self.fast.frames]

    def word(self):
        """The word of the fast row that comes next, or None in a plain frame."""
        frame = self.fast.frames[-1] if self.fast.frames else ("plain",)
        return frame[1][1][frame[2]][0] if frame[0] == "fast" else None

    def slot(self, name):
        return self.fast.objects.slot(0, name)[1]


class TestInterface(FastCase):
    def test_names(self):
        self.assertEqual(FastMachine.__module__, "reaimed.fast")
        for name in ("tick", "state", "prepare", "take_back", "forget", "collect", "is_fast"):
            self.assertIn(name, vars(FastMachine))

    def test_fields_at_the_beginning(self):
        code = program(method(0, 1, *END))
        machine = FastMachine(code=code)
        self.assertEqual(machine.code, code)
        for field, kind in (("scopes", dict), ("blocks", dict), ("frames", list), ("events", list), ("ticks", int),
                            ("objects", Objects), ("shapes", Shapes), ("caches", Caches), ("searches", int), ("placed", int)):
            self.assertEqual(getattr(machine, field).__class__, kind, field)
        self.assertEqual((machine.searches, machine.placed, machine.ticks, machine.end), (0, 0, 0, None))
        self.assertEqual(machine.frames, [("method", 0, 0, LOBBY, 0, ("locals", (NOTHING,), -1), (), 0)])
        self.assertEqual(machine.shapes.count(), 1)
        captured = FastMachine(program(method(0, 0, ("block", 0), ("return",))))
        self.assertEqual(captured.frames, [("method", 0, 0, LOBBY, 0, ("scope", 0), (), 1)])

    def test_caches_and_shapes_are_those_of_the_objects(self):
        machine = self.begin("main { self.lobby(); }")
        self.to_end()
        self.assertEqual(machine.caches.entries((0, 1)), [((1, ()), "lobby", ("own", 0), ())])
        self.assertEqual(machine.shapes.row(1), (("lobby", "const", LOBBY),))

    def test_kinds_of_values(self):
        machine = self.begin("main { put self.x const = 1; print x; }")
        for deed in (machine.tick, machine.forget, machine.collect):
            self.assertIsNone(deed())
        self.assertIs(machine.prepare(0), True)
        self.assertIs(machine.is_fast(0), True)
        self.assertIsNone(machine.take_back(0))
        self.assertIs(machine.is_fast(0), False)
        self.assertEqual(kinds_in(machine.state()), {tuple, str, int, None.__class__})

    def test_example_of_the_plain_machine(self):
        machine = self.begin_code((((0, 0, False, (("push", TWO), ("print",), ("push", NOTHING), ("return",))),), 0))
        self.step(4)
        self.assertEqual((machine.end, machine.events, machine.ticks), (("done",), [("print", TWO)], 4))
        self.step(3)
        self.assertEqual(machine.ticks, 4)


class TestCachedSends(FastCase):
    def test_plain_frames_ask_at_their_rows(self):
        machine = self.begin(POINT + "main { let i = 0; while i < 3 { print low.sum(); i := i + 1; } }")
        self.to_end()
        main = [at for at, row in enumerate(machine.code[0][0][3]) if row == ("send", "sum", 0)][0]
        entries = machine.caches.entries((0, main))
        self.assertEqual([entry[1:3] for entry in entries], [("sum", ("held", self.slot("point")[1], 2))])
        # low and sum in main, x and y in sum; and point in the object low.
        self.assertEqual((machine.caches.misses, machine.searches, machine.caches.hits), (5, 5, 8))

    def test_resends_ask_for_the_holder(self):
        machine = self.begin("object top { const x = 1; } object low { parent p = top; method x() { return resend x(); } }"
                             "main { print low.x(); print low.x(); }")
        self.to_end()
        low, top = self.slot("low")[1], self.slot("top")[1]
        self.assertEqual(machine.caches.entries((1, 0)), [(("resend", low), "x", ("held", top, 0), tuple(sorted((low, top))))])
        self.assertEqual(machine.events, [("print", ONE)] * 2)
        # low, x and the resend, and top in the object low.
        self.assertEqual((machine.searches, machine.caches.misses, machine.caches.hits), (6, 6, 1))

    def test_what_does_not_ask(self):
        machine = self.begin("main { put self.x var = 1; self.x := 2; drop self.x; let f = fn (a) { a; }; f.call(1); 5.x(); }")
        self.to_end()
        self.assertEqual((machine.end, machine.searches, machine.caches.misses), (("error", "none"), 0, 0))

    def test_the_holder_of_a_resend_may_be_gone(self):
        machine = self.begin("object top { const x = 1; } object low { parent p = top; method x() { return resend x(); } }"
                             "main { print low.x(); }")
        self.until(lambda: len(machine.frames) == 2)
        low = self.slot("low")[1]
        ids = [number for number in machine.objects.ids() if number != low]
        machine.objects.keep(ids)
        self.plain.objects.keep(ids)
        misses = machine.searches
        self.step()
        self.assertEqual((machine.end, machine.searches), (("error", "none"), misses))

    def test_errors_of_searches(self):
        machine = self.begin(POINT + "main { print low.sum(); low.other(); }")
        self.to_end()
        self.assertEqual(machine.end, ("error", "none"))
        machine = self.begin("object a { const x = 1; } object b { const x = 2; }"
                             "object c { parent p = a; parent q = b; } main { c.x(); }")
        self.to_end()
        self.assertEqual(machine.end, ("error", "several"))


class TestFastFrames(FastCase):
    def test_a_fast_frame(self):
        machine = self.begin("method m(a, b) { let c = 1; return a + b + c; } main { print m(2, 3); print m(4, 5); }")
        self.assertTrue(self.deed("prepare", 1))
        self.until(lambda: len(machine.frames) == 2)
        made = machine.frames[-1][1]
        self.assertEqual(machine.frames[-1], ("fast", made, 0, LOBBY, 0, (TWO, num(3), NOTHING)))
        self.assertEqual(made[0], 1)
        self.step(3)
        self.assertEqual(machine.frames[-1], ("fast", made, 3, LOBBY, 0, (TWO, num(3), ONE, TWO)))
        self.to_end()
        self.assertEqual(machine.events, [("print", num(6)), ("print", num(10))])

    def test_code_without_a_method_stays_plain(self):
        machine = self.begin("method m() { return 1; } method n() { return m(); } main { print n(); }")
        self.deed("prepare", 2)
        self.until(lambda: len(machine.frames) == 3)
        self.assertEqual(self.kinds(), ["method", "fast", "method"])
        self.to_end()

    def test_main_stays_plain(self):
        machine = self.begin("main { print 1; print 2; }")
        self.assertTrue(self.deed("prepare", 0))
        self.until_prints(1)
        self.assertEqual(self.kinds(), ["method"])
        self.to_end()

    def test_main_as_a_method_is_fast(self):
        machine = self.begin_code(program(method(0, 0, ("self",), ("method", 0), ("put", "m", "method"), ("self",),
                                                 ("send", "m", 0), ("return",))))
        self.deed("prepare", 0)
        self.step(5)
        self.assertEqual(self.kinds(), ["method", "fast"])
        self.step(5)

    def test_frames_of_blocks_stay_plain(self):
        machine = self.begin("main { let f = fn (a) { a + 1; }; print f.call(1); }")
        self.assertEqual(self.prepare_all(), [False, True])
        self.until(lambda: len(machine.frames) == 2)
        self.assertEqual(self.kinds(), ["method", "block"])
        self.to_end()

    def test_each_row_that_stays(self):
        text = ("method m(a) { put self.x var = a; self.x := a + 1; print x; drop self.x; print 1 == a; print true; print nothing;"
                " let o = object { const y = 5; var z = self; method n() { return 1; } }; print o.y(); print o.n();"
                " if a < 2 { print 2; } else { print 3; } while a < 3 { a := a + 1; print a; } 7; return o; }"
                "main { print m(1).y(); print m(2) == m(3); }")
        machine = self.begin(text)
        self.prepare_all()
        self.to_end()
        self.assertEqual(machine.end, ("done",))

    def test_calls_from_fast_frames(self):
        machine = self.begin("method run(f, a) { return f.call(a) + 1; } main { let n = 5; print run(fn (b) { n + b; }, 2); }")
        self.prepare_all()
        self.until(lambda: len(machine.frames) == 3)
        self.assertEqual(self.kinds(), ["method", "fast", "block"])
        self.assertEqual(machine.frames[1][2], 3)
        self.to_end()
        self.assertEqual(machine.events, [("print", num(8))])

    def test_home_returns_through_fast_frames(self):
        machine = self.begin("method run(f, n) { if n == 0 { f.call(); } else { run(f, n - 1); } return 0; }"
                             "method find() { run(fn () { return 7; }, 3); return 1; } method outer() { return find() + 1; }"
                             "main { print outer(); }")
        self.prepare_all()
        self.until(lambda: "block" in self.kinds())
        self.assertEqual(self.kinds(), ["method", "fast", "method", "fast", "fast", "fast", "fast", "block"])
        self.to_end()
        self.assertEqual(machine.events, [("print", num(8))])

    def test_home_in_a_fast_frame(self):
        machine = self.begin_code(program(
            method(0, 0, ("self",), ("method", 1), ("put", "m", "method"), ("self",), ("send", "m", 0), ("return",)),
            method(0, 0, push(1), ("home",))))
        self.deed("prepare", 1)
        self.step(7)
        self.assertEqual((machine.end, self.kinds()), (("error", "gone"), ["method", "fast"]))

    def test_errors_in_fast_frames(self):
        for body, word in (("return a + nothing;", "number"), ("return a div 0;", "division"), ("return a.x();", "none"),
                           ("return resend x();", "none"), ("return self.lobby(a);", "arguments"), ("a.call();", "block"),
                           ("self.lobby := a;", "constant"), ("put a.x var = 1;", "none"), ("drop self.x;", "none"),
                           ("if a { }", "truth"), ("return resend m(1);", "none")):
            machine = self.begin("method m(a) { print a; " + body + " } main { m(5); }")
            self.prepare_all()
            self.to_end()
            self.assertEqual((machine.end, self.kinds()), (("error", word), ["method", "fast"]), body)
            self.step(2)

    def test_a_last_return_of_a_fast_frame(self):
        # The frame of main ends while a fast one gives its value to a home further out.
        machine = self.begin("method m() { return 1; } main { print m(); return m(); }")
        self.prepare_all()
        self.to_end()
        self.assertEqual((machine.end, machine.frames), (("done",), []))


class TestPlacedRows(FastCase):
    TEXT = POINT + "main { let i = 0; while i < 6 { i := i + 1; print low.all(); print low.all(); } }"

    def warm(self, text=None, many=2):
        """Behind some prints all methods get fast code."""
        machine = self.begin(text or self.TEXT)
        self.until_prints(many)
        self.prepare_all()
        return machine

    def test_levels_and_counts(self):
        machine = self.warm("object o { var x = 3; method sum() { return x + x; } method all() { return sum() + 1; } }"
                            "main { let i = 0; while i < 3 { i := i + 1; print o.all(); } }", 1)
        self.assertEqual((machine.searches, machine.placed), (5, 0))
        deepest = 0
        while machine.end is None:
            if machine.frames[-1][0] == "fast":
                deepest = max(deepest, len(machine.frames[-1][1][2][machine.frames[-1][2]]))
            self.step()
        self.assertEqual(deepest, 2)
        # In each of the two other runs: one enter, two reads, one leave.
        self.assertEqual((machine.searches, machine.placed), (5, 8))

    def test_placed_rows_ask_nobody(self):
        machine = self.warm()
        words = {}
        while machine.end is None:
            word, counts = self.word(), (machine.caches.hits, machine.searches, machine.placed)
            self.step()
            if word in ("read", "enter", "leave"):
                words[word] = words.get(word, 0) + 1
                self.assertEqual((machine.caches.hits, machine.searches), counts[:2])
                self.assertEqual(machine.placed, counts[2] + 1)
            elif word is not None:
                self.assertEqual(machine.placed, counts[2])
        self.assertEqual(sorted(words), ["enter", "leave", "read"])
        self.assertEqual(sum(words.values()), machine.placed)

    def test_reads_of_the_moment(self):
        machine = self.warm(POINT + "method get(o) { return o.x(); }"
                            "main { let i = 0; while i < 4 { i := i + 1; print get(low); low.x := i * 100; } }", 1)
        self.until(lambda: self.word() == "read")
        self.to_end()
        self.assertEqual(machine.events, [("print", num(n)) for n in (3, 100, 200, 300)])

    def test_reads_of_the_receiver_itself(self):
        machine = self.warm("method get(o) { return o.x(); } method make(n) { return object { var x = n; }; }"
                            "main { let i = 0; while i < 4 { i := i + 1; print get(make(i)); } }", 1)
        self.until(lambda: self.word() == "read")
        self.to_end()
        self.assertEqual((machine.placed, machine.events), (3, [("print", num(n)) for n in (1, 2, 3, 4)]))

    def turned(self, text, prints):
        """Behind so many prints a row meets a receiver without its key: the frames behind that tick."""
        machine = self.warm(text, prints)
        self.until(lambda: self.word() in ("read", "enter"))
        placed = machine.placed
        self.step()
        self.assertEqual(machine.placed, placed)
        return machine

    def test_a_receiver_without_the_key_of_a_read(self):
        for other in ("object { const q = 0; var x = 9; }", "object { parent p = one; }", "7", "nothing", "fn () { 1; }"):
            machine = self.turned("object one { var x = 1; } method get(o) { return o.x(); }"
                                  "main { print get(one); print get(" + other + "); print 1; }", 1)
            self.assertEqual(self.kinds(), ["method", "method"])
            self.to_end()

    def test_a_receiver_without_the_key_of_an_enter(self):
        for other in ("object { method f(a) { return a + 2; } }", "object { parent p = one; }", "7", "object { var f = 1; }",
                      "object { method f() { return 0; } }"):
            machine = self.turned("object one { method f(a) { return a + 1; } } method run(o) { return o.f(5) * 2; }"
                                  "main { print run(one); print run(" + other + "); print 1; }", 1)
            self.assertNotIn("fast", self.kinds()[:2])
            self.to_end()

    def test_the_values_of_varparents_are_in_the_key(self):
        machine = self.warm("object a { const x = 1; } object b { const x = 2; } method get(o) { return o.x(); }"
                            "method make(p) { return object { var parent up = p; }; }"
                            "main { print get(make(a)); print get(make(a)); print get(make(b)); print get(make(a)); }", 1)
        self.until_prints(2)
        self.assertEqual(machine.placed, 1)
        self.until_prints(3)
        self.assertEqual(machine.placed, 1)
        self.to_end()
        self.assertEqual(machine.placed, 2)
        self.assertEqual(machine.events, [("print", num(n)) for n in (1, 1, 2, 1)])

    def test_a_frame_that_turns_plain_at_a_level(self):
        text = ("object a { const x = 1; } object b { const y = 0; const x = 2; } object m { method get(o) { return o.x(); }"
                " method run(o) { return get(o) + 10; } method go(o) { return run(o) + 100; } }"
                "main { print m.go(a); print m.go(b); print m.go(a); }")
        machine = self.warm(text, 1)
        self.until(lambda: self.word() == "read")
        self.assertEqual(self.kinds(), ["method", "fast"])
        self.step()
        self.assertEqual(self.kinds(), ["method"] * 4)
        self.until_prints(3)
        self.assertEqual([value[1] for _, value in machine.events], [111, 112, 111])

    def test_resends_of_levels(self):
        text = ("object top { method f() { return 1; } } object low { parent p = top; method f() { return resend f() + 10; } }"
                "object more { parent p = low; } method own(o) { return o.f(); } method held(o) { return o.f(); }"
                "main { let i = 0; while i < 3 { i := i + 1; print own(low); print held(more); } }")
        machine = self.warm(text, 2)
        self.until(lambda: self.word() == "resend")
        self.assertEqual(len(self.fast.frames[-1][1][2][self.fast.frames[-1][2]]), 2)
        self.to_end()
        self.assertEqual(machine.events, [("print", num(11))] * 6)

    def test_sends_of_levels_ask_at_their_rows(self):
        text = ("object a { const x = 1; } object b { const y = 1; const x = 1; } object c { const z = 1; const x = 1; }"
                "method get(o) { return o.x(); } method run(o) { return get(o); }"
                "main { run(a); run(b); print 1; run(a); run(c); print 2; }")
        machine = self.warm(text, 1)
        row = [at for at, row in enumerate(machine.code[0][1][3]) if row[0] == "send"][0]
        self.assertEqual(len(machine.caches.entries((1, row))), 2)
        self.until(lambda: self.word() == "send")
        hits = machine.caches.hits
        self.assertEqual(len(machine.frames[-1][1][2][machine.frames[-1][2]]), 2)
        self.step()
        self.assertEqual(machine.caches.hits, hits + 1)
        self.to_end()
        self.assertEqual(len(machine.caches.entries((1, row))), 3)


class TestChanges(FastCase):
    """What takes fast code back: here that of `get` and `run`, which rest on the object top."""

    HEAD = ("object other { const q = 5; } object top { var x = 1; var parent up = other; const c = 7; }"
            "object low { parent p = top; } method get(o) { return o.x(); } method run(o) { return get(o) + get(o); }"
            "method wait(o) { let a = o.x(); change(o); return a + o.x(); } method change(o) { return 0; }")
    GET, RUN, WAIT, CHANGE = 1, 2, 3, 4

    def ready(self, change, main="main { print run(low); print wait(low); print run(low); print wait(low); print get(low); }"):
        """All has run once and has fast code; change does nothing then."""
        machine = self.begin(self.HEAD.replace("change(o) { return 0;", "change(o) { if marks() == 1 { " + change + " } return 0;")
                             + main.replace("main {", "main { put self.marks var = 0;").replace(
                                 "print wait(low); print run", "print wait(low); self.marks := 1; print run", 1))
        self.until_prints(2)
        self.assertEqual(self.prepare_all()[1:], [True] * 4)
        return machine

    def test_rests(self):
        machine = self.ready("")
        top, low = self.slot("top")[1], self.slot("low")[1]
        rests = {j: made[3] for j, made in machine.fast_codes.items()}
        self.assertEqual((rests[self.GET], rests[self.WAIT]), ((top,), (top,)))
        self.assertEqual(rests[self.RUN], (top,))
        self.assertNotIn(low, rests[self.RUN])

    def changed(self, change, taken):
        machine = self.ready(change)
        top = self.slot("top")[1]
        self.until_prints(3)
        if taken:
            self.until(lambda: not machine.is_fast(self.WAIT))
            self.assertEqual([machine.is_fast(j) for j in (self.GET, self.RUN, self.WAIT)], [False] * 3)
            self.assertNotIn("fast", [frame[0] for frame in machine.frames if frame[1] == self.WAIT])
            self.assertFalse([frame for frame in machine.frames if frame[0] == "fast" and top in frame[1][3]])
        self.to_end()
        self.assertEqual(machine.is_fast(self.GET), not taken)
        return [value[1] for _, value in machine.events]

    def test_a_put(self):
        self.assertEqual(self.changed("put top.z const = 1;", True), [2, 2, 2, 2, 1])
        self.assertEqual(self.changed("put top.x var = 5;", True), [2, 2, 2, 6, 5])
        self.assertEqual(self.changed("put low.x var = 5;", False), [2, 2, 2, 6, 5])

    def test_a_drop(self):
        self.assertEqual(self.changed("drop top.c;", True), [2, 2, 2, 2, 1])

    def test_an_assignment_to_a_varparent(self):
        self.assertEqual(self.changed("top.up := 5;", True), [2, 2, 2, 2, 1])
        self.assertEqual(self.changed("low.up := low;", True), [2, 2, 2, 2, 1])

    def test_an_assignment_to_a_var(self):
        self.assertEqual(self.changed("top.x := 5;", False), [2, 2, 2, 6, 5])

    def test_a_change_of_another_object(self):
        self.assertEqual(self.changed("put other.z const = 1;", False), [2, 2, 2, 2, 1])
        self.assertEqual(self.changed("drop other.q;", False), [2, 2, 2, 2, 1])

    def test_changes_that_fail(self):
        machine = self.ready("drop top.zz;")
        self.to_end()
        self.assertEqual(machine.end, ("error", "none"))
        self.assertTrue(machine.is_fast(self.WAIT))

    def test_a_change_that_changes_nothing(self):
        self.assertEqual(self.changed("put top.c const = 7;", True), [2, 2, 2, 2, 1])

    def own_change(self, body, taken=True):
        """A method that reads o.x, changes something itself, and reads o.x again; twice."""
        text = ("object top { var x = 1; var parent up = nothing; } object low { parent p = top; }"
                "method go(o, n) { let a = o.x(); if n == 1 { " + body + " } return a * 100 + o.x() + n; }"
                "main { print go(low, 0); print go(low, 1); print go(low, 2); }")
        machine = self.begin(text)
        self.until_prints(1)
        self.prepare_all()
        self.until(lambda: "fast" in self.kinds())
        forgotten = machine.caches.forgotten
        if taken:
            self.until(lambda: "fast" not in self.kinds())
            # The frame turned plain behind the effect of its own row, in the middle of the method.
            self.assertEqual(len(machine.frames), 2)
            self.assertEqual(machine.frames[-1][0], "method")
            self.assertIn(machine.code[0][1][3][machine.frames[-1][2] - 1][0], ("put", "drop", "assign"))
            self.assertGreater(machine.caches.forgotten, forgotten)
            self.assertFalse(machine.is_fast(1))
        self.to_end()
        return [value[1] for _, value in machine.events if value[0] == "num"], machine.end

    def test_a_fast_frame_that_changes_what_it_rests_on(self):
        self.assertEqual(self.own_change("put top.x var = 2;"), ([101, 103, 204], ("done",)))
        self.assertEqual(self.own_change("put top.z var = 2;"), ([101, 102, 103], ("done",)))
        self.assertEqual(self.own_change("drop top.x;"), ([101], ("error", "none")))
        self.assertEqual(self.own_change("low.up := low;"), ([101, 102, 103], ("done",)))
        self.assertEqual(self.own_change("low.x := 3;", False), ([101, 104, 305], ("done",)))

    def test_a_level_that_changes_what_the_frame_rests_on(self):
        text = ("object top { var x = 1; method inner(n) { if n == 1 { put self.x var = 7; } return x; }"
                " method outer(n) { return x * 100 + inner(n); } }"
                "object low { parent p = top; } method go(o, n) { let a = o.outer(n); return a + o.x(); }"
                "main { print go(low, 0); print go(low, 0); print go(top, 1); put low.x var = 3; print go(low, 1); }")
        machine = self.begin(text)
        self.until_prints(1)
        self.prepare_all()
        self.until(lambda: self.fast.frames[-1][0] == "fast" and len(machine.frames[-1][1][2][machine.frames[-1][2]]) == 3)
        self.until_prints(2)
        self.to_end()
        self.assertEqual(machine.end, ("done",))
        text = ("object top { var x = 1; const t = 2; method inner(n) { if n == 1 { put t().y var = 7; } return x; }"
                " method outer(n) { return x * 100 + inner(n); } method t() { return top; } }".replace("const t = 2; ", "")
                + "object low { parent p = top; } method get() { return low; } main { put top.top const = top;"
                " print low.outer(0); print low.outer(0); print low.outer(1); print low.outer(0); }")
        machine = self.begin(text)
        self.until_prints(1)
        self.prepare_all()
        self.until_prints(2)
        self.until(lambda: "fast" in self.kinds())
        self.until(lambda: "fast" not in self.kinds())
        # Two frames of the two levels, in the row behind the put.
        self.assertEqual(len(machine.frames), 3)
        self.assertEqual(machine.code[0][machine.frames[-1][1]][3][machine.frames[-1][2] - 1], ("put", "y", "var"))
        self.to_end()
        self.assertEqual([value[1] for _, value in machine.events], [101] * 4)

    def test_a_plain_frame_changes_what_a_fast_one_below_rests_on(self):
        for change, value in (("put top.z const = 1;", 1), ("put top.x const = 4;", 4), ("drop top.c;", 1), ("top.up := 5;", 1)):
            machine = self.ready(change)
            self.deed("take_back", self.CHANGE)
            self.deed("take_back", self.WAIT)
            # The site of the send to change has two entries, so it stays a send.
            machine.caches.ask((self.WAIT, 5), "zz", 0)
            self.assertTrue(self.deed("prepare", self.WAIT))
            self.until(lambda: self.kinds() == ["method", "fast", "method"] and machine.frames[1][1][0] == self.WAIT)
            self.until(lambda: "fast" not in self.kinds())
            self.assertEqual(len(machine.frames), 3)
            self.assertIn(machine.code[0][self.CHANGE][3][machine.frames[-1][2] - 1][0], ("put", "drop", "assign"))
            self.to_end()
            self.assertEqual(machine.events[3:], [("print", num(1 + value)), ("print", num(value))])

    def test_main_changes_what_fast_code_rests_on(self):
        text = ("object top { var x = 1; var parent up = nothing; } object low { parent p = top; } method get(o) { return o.x(); }"
                "main { print get(low); print get(low); put top.y const = 1; print get(low); print get(low); }")
        machine = self.begin(text)
        self.until_prints(1)
        self.prepare_all()
        self.until(lambda: not machine.is_fast(1))
        self.assertEqual(machine.code[0][0][3][machine.frames[-1][2] - 1], ("put", "y", "const"))
        self.assertEqual((machine.placed, len(machine.events)), (1, 2))
        self.to_end()
        self.assertEqual((machine.placed, machine.is_fast(1)), (1, False))

    def test_frames_with_earlier_code(self):
        # wait runs with code that rests on top; then it gets code without rests.
        machine = self.ready("put top.z const = 1;")
        self.until(lambda: [frame for frame in machine.frames if frame[0] == "fast" and frame[1][0] == self.WAIT])
        earlier = machine.frames[-1][1]
        self.assertNotEqual(earlier[3], ())
        machine.caches.changed(self.slot("top")[1])
        self.assertTrue(self.deed("prepare", self.WAIT))
        self.assertEqual(machine.frames[-1][1], earlier)
        self.until(lambda: "fast" not in self.kinds())
        self.assertTrue(machine.is_fast(self.WAIT))
        self.assertEqual(machine.fast_codes[self.WAIT][3], ())
        self.to_end()

    def test_the_caches_are_told(self):
        for change in ("put top.z const = 1;", "drop top.c;", "top.up := 5;"):
            machine = self.ready(change)
            forgotten = machine.caches.forgotten
            self.to_end()
            self.assertGreater(machine.caches.forgotten, forgotten)
        machine = self.ready("top.x := 5;")
        # Assigning to marks is of a var, too.
        forgotten = machine.caches.forgotten
        self.to_end()
        self.assertEqual(machine.caches.forgotten, forgotten)


class TestDeeds(FastCase):
    TEXT = ("object o { var x = 1; } object p { parent up = o; } method get(a) { return a.x(); }"
            "method twice(a) { return get(a) + get(a); } method catch(f) { return fn () { f; }; }"
            "main { let i = 0; while i < 5 { i := i + 1; print twice(p); } catch(i).call(); }")
    GET, TWICE, CATCH, BLOCK = 1, 2, 3, 4

    def ready(self):
        machine = self.begin(self.TEXT)
        self.until_prints(1)
        return machine

    def test_prepare(self):
        machine = self.ready()
        self.assertEqual([machine.is_fast(j) for j in range(5)], [False] * 5)
        self.assertEqual(self.prepare_all(), [True, True, True, False, True])
        self.assertEqual([machine.is_fast(j) for j in range(5)], [True, True, True, False, True])
        self.to_end()

    def test_prepare_makes_no_entries(self):
        machine = self.ready()
        counts = (machine.caches.hits, machine.caches.misses, machine.caches.forgotten, machine.shapes.count())
        sites = [machine.caches.entries((j, row)) for j in range(5) for row in range(20)]
        self.prepare_all()
        self.assertEqual((machine.caches.hits, machine.caches.misses, machine.caches.forgotten, machine.shapes.count()), counts)
        self.assertEqual([machine.caches.entries((j, row)) for j in range(5) for row in range(20)], sites)

    def test_prepare_in_the_place_of_an_earlier_one(self):
        machine = self.begin(self.TEXT)
        self.assertTrue(self.deed("prepare", self.GET))
        first = machine.fast_codes[self.GET]
        self.assertEqual([row[0] for row in first[1]][:2], ["word", "send"])
        self.until(lambda: "fast" in self.kinds())
        self.step(2)
        frame = machine.frames[-1]
        self.assertEqual(frame[1], first)
        self.assertTrue(self.deed("prepare", self.GET))
        self.assertEqual(machine.frames[-1], frame)
        self.until(lambda: "fast" not in self.kinds())
        self.until(lambda: "fast" in self.kinds())
        self.assertEqual([row[0] for row in machine.frames[-1][1][1]][:2], ["word", "read"])

    def test_four_hundred_rows(self):
        for many, possible in ((399, True), (400, False), (401, False)):
            machine = self.begin_code(program(method(0, 0, *[push(1)] * many, ("return",))))
            self.assertEqual((self.deed("prepare", 0), machine.is_fast(0)), (possible, possible))

    def test_an_earlier_one_stays_if_none_can_be_made(self):
        # 14 sends of a method with 30 rows are too many once they are known.
        rows = [row for _ in range(14) for row in (("self",), ("send", "m", 0), ("pop",))]
        machine = self.begin_code(program(
            method(0, 0, ("self",), ("method", 1), ("put", "m", "method"), ("self",), ("method", 2), ("put", "n", "method"),
                   ("self",), ("send", "n", 0), ("return",)),
            method(0, 0, *[push(1)] * 29, ("return",)), method(0, 0, *rows, *END)))
        self.assertTrue(self.deed("prepare", 2))
        earlier = machine.fast_codes[2]
        self.to_end()
        self.assertTrue(self.deed("prepare", 2))
        self.assertEqual(machine.fast_codes[2], earlier)
        self.deed("take_back", 2)
        self.assertFalse(self.deed("prepare", 2))
        self.assertFalse(machine.is_fast(2))

    def test_take_back(self):
        machine = self.ready()
        self.prepare_all()
        self.until(lambda: "fast" in self.kinds())
        self.assertIsNone(self.deed("take_back", self.GET))
        self.assertIn("fast", self.kinds())
        self.assertEqual([machine.is_fast(j) for j in (self.GET, self.TWICE)], [False, True])
        entries = machine.caches.entries((self.GET, 1))
        self.assertIsNone(self.deed("take_back", self.TWICE))
        self.assertEqual(self.kinds(), ["method", "method"])
        self.assertEqual([machine.is_fast(j) for j in (self.GET, self.TWICE)], [False, False])
        self.assertEqual(machine.caches.entries((self.GET, 1)), entries)
        self.assertEqual((len(entries), machine.caches.forgotten), (1, 0))
        self.to_end()

    def test_take_back_what_is_not_there(self):
        machine = self.ready()
        for j in range(5):
            self.assertIsNone(self.deed("take_back", j))
        self.to_end()

    def test_take_back_of_earlier_code(self):
        machine = self.begin(self.TEXT)
        self.deed("prepare", self.TWICE)
        self.until(lambda: "fast" in self.kinds())
        self.step(4)
        self.deed("prepare", self.TWICE)
        self.deed("take_back", self.TWICE)
        self.assertNotIn("fast", self.kinds())
        machine = self.begin(self.TEXT)
        self.deed("prepare", self.TWICE)
        self.until(lambda: "fast" in self.kinds())
        self.step(6)
        earlier = [frame for frame in machine.frames if frame[0] == "fast"]
        self.deed("prepare", self.TWICE)
        self.deed("take_back", self.GET)
        self.assertEqual([frame for frame in machine.frames if frame[0] == "fast"], earlier)
        self.to_end()

    def test_take_back_turns_levels_plain(self):
        machine = self.ready()
        self.prepare_all()
        self.until(lambda: self.word() == "read")
        self.assertEqual(self.kinds(), ["method", "fast"])
        self.deed("take_back", self.TWICE)
        self.assertEqual(self.kinds(), ["method"] * 3)
        self.assertEqual([frame[1] for frame in machine.frames], [0, self.TWICE, self.GET])
        self.to_end()

    def test_forget(self):
        machine = self.ready()
        self.prepare_all()
        self.until(lambda: self.word() == "read")
        caches, searches = machine.caches, machine.searches
        self.assertIsNone(self.deed("forget"))
        self.assertIsNot(machine.caches, caches)
        self.assertEqual((machine.caches.hits, machine.caches.misses, machine.caches.forgotten), (0, 0, 0))
        self.assertEqual(machine.caches.entries((self.GET, 1)), [])
        self.assertEqual(self.kinds(), ["method"] * 3)
        self.assertEqual([machine.is_fast(j) for j in range(5)], [False] * 5)
        self.assertEqual(machine.searches, searches)
        self.step()
        # The row of the read is asked again.
        self.assertEqual((machine.searches, machine.caches.misses), (searches + 1, 1))
        self.to_end()
        self.assertEqual(machine.searches, searches + machine.caches.misses)

    def test_what_a_forget_leaves(self):
        machine = self.ready()
        shapes, count, placed = machine.shapes, machine.shapes.count(), machine.placed
        self.deed("forget")
        self.deed("forget")
        self.assertEqual((machine.shapes, machine.shapes.count(), machine.placed), (shapes, count, placed))
        self.to_end()
        # The new caches ask for shapes of the same machine.
        self.assertEqual(machine.caches.entries((self.GET, 1))[0][0], (machine.shapes.shape_of(
            machine.objects.slots(self.slot("p")[1])), ()))

    def test_deeds_behind_the_end(self):
        machine = self.ready()
        self.prepare_all()
        self.to_end()
        for name in ("forget", "collect"):
            self.assertIsNone(getattr(machine, name)())
        self.assertTrue(machine.prepare(self.GET))
        self.assertEqual(machine.end, ("done",))
        machine.tick()
        self.assertEqual((machine.end, machine.frames), (("done",), []))


class TestCollections(FastCase):
    TEXT = ("object low { method f() { return 1; } } method make() { return object { const x = 5; }; }"
            "method get(a) { return a.x(); } method run(a) { return get(object { parent up = a; }); }"
            "main { let a = make(); print run(a); print run(a); a := nothing; print 3; print make(); print make(); }")

    def same_but_for_collected(self):
        self.assertEqual(self.fast.state()[0], self.plain.state()[0])
        self.assertEqual(self.fast.state()[4:], self.plain.state()[4:])
        self.assertLessEqual(set(self.fast.state()[1]), set(self.plain.state()[1]))

    def go_on(self, many):
        while len(self.fast.events) < many:
            self.fast.tick()
            self.plain.tick()
            self.same_but_for_collected()

    def ready(self):
        machine = self.begin(self.TEXT)
        self.until_prints(1)
        for j in range(len(machine.code[0])):
            machine.prepare(j)
        self.until_prints(2)
        return machine

    def code_of(self, name):
        return [j for j, code in enumerate(self.fast.code[0]) if ("send", name, 0) in code[3]][-1]

    def test_what_is_taken_away(self):
        machine = self.ready()
        before = machine.objects.ids()
        kept = live(self.plain.objects, self.plain.scopes, self.plain.blocks, self.plain.frames)[0]
        self.assertIsNone(machine.collect())
        self.assertEqual(machine.objects.ids(), kept)
        self.assertLess(len(kept), len(before))
        self.same_but_for_collected()
        machine.collect()
        self.assertEqual(machine.objects.ids(), kept)
        self.go_on(5)
        self.assertEqual(machine.events[-2:], self.plain.events[-2:])

    def test_fast_code_that_rests_on_what_is_gone(self):
        machine = self.ready()
        get = self.code_of("x")
        self.assertTrue(machine.is_fast(get))
        rests = machine.fast_codes[get][3]
        self.assertEqual(len(rests), 1)
        machine.collect()
        self.assertTrue(machine.is_fast(get))
        entries, forgotten = machine.caches.entries((get, 1)), machine.caches.forgotten
        self.assertEqual(entries[0][3], rests)
        self.go_on(3)
        machine.collect()
        self.assertFalse(machine.objects.has(rests[0]))
        self.assertFalse(machine.is_fast(get))
        self.assertEqual(machine.caches.entries((get, 1)), [])
        self.assertEqual(machine.caches.forgotten, forgotten + 1)
        self.go_on(5)

    def test_frames_whose_code_rests_on_what_is_gone(self):
        # The slot was found in an object that nothing names any more; the frame that runs has code for it.
        text = ("method get(a) { let b = wait(); return a.x(); } method wait() { return 0; }"
                "main { print get(object { parent up = object { const x = 1; }; }); print get(object { const x = 2; }); }")
        machine = self.begin(text)
        self.until_prints(1)
        machine.prepare(1)
        self.until(lambda: "fast" in self.kinds())
        self.step(1)
        machine.collect()
        self.assertNotIn("fast", self.kinds())
        self.assertFalse(machine.is_fast(1))
        self.go_on(2)
        self.assertEqual(machine.events, [("print", ONE), ("print", TWO)])

    def test_what_fast_frames_name_is_kept(self):
        text = ("method get(a) { let b = object { const y = a; }; return b.y().x() + use(b); } method use(b) { return b.y().x(); }"
                "main { print get(object { const x = 1; }); print get(object { const x = 2; }); print get(object { const x = 3; }); }")
        for ticks in range(60):
            machine = self.begin(text)
            self.until_prints(1)
            for j in range(3):
                machine.prepare(j)
            self.step(ticks)
            machine.collect()
            self.same_but_for_collected()
            self.go_on(3)


class TestWatching(FastCase):
    def test_state_leaves_the_frames_fast(self):
        machine = self.begin("method m(a) { return a; } main { print m(1); }")
        self.prepare_all()
        self.until(lambda: "fast" in self.kinds())
        frames = list(machine.frames)
        state = machine.state()
        self.assertEqual(machine.frames, frames)
        self.assertEqual(state[0][1], ("method", 1, 0, LOBBY, 0, ("locals", (ONE,), -1), (), 0))
        self.step()
        self.assertEqual(state[0][1], ("method", 1, 0, LOBBY, 0, ("locals", (ONE,), -1), (), 0))

    def test_many_frames(self):
        text = "method m(n) { if n == 0 { return 0; } return m(n - 1) + 1; } main { print m(1500); }"
        plain, fast = PlainMachine(compile_text(text)), FastMachine(compile_text(text))
        fast.prepare(1)
        for _ in range(100000):
            plain.tick()
            fast.tick()
        self.assertEqual(fast.state(), plain.state())
        self.assertEqual(fast.events, [("print", num(1500))])

    def test_long_chains(self):
        text = ("object o { const x = 7; } method pair(p) { return object { parent q = p; }; } method get(a) { return a.x(); }"
                " main { let a = o; let i = 0; while i < 2000 { a := pair(a); i := i + 1; } print get(a); print get(a);"
                " print get(a); put o.y const = 1; print get(a); print 1; }")
        plain, fast = PlainMachine(compile_text(text)), FastMachine(compile_text(text))
        while fast.end is None:
            fast.tick()
            plain.tick()
            if len(fast.events) == 1:
                fast.prepare(2)
        self.assertEqual(fast.state(), plain.state())
        self.assertEqual((fast.placed, fast.events[:4]), (2, [("print", num(7))] * 4))


if __name__ == "__main__":
    unittest.main()
