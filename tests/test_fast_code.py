"""Part 7: what stands in fast code, which sends are put in place, and the plain frames of a fast one."""

import unittest

from machines import END, LOBBY, NOTHING, ONE, TWO, method, num, push, ref
from reaimed.caches import Caches
from reaimed.fast_code import make_fast, plain_frames
from reaimed.objects import Objects
from reaimed.shapes import Shapes
from values import kinds_in

SEND_X = method(0, 0, ("self",), ("send", "x", 0), ("return",))
FREE = (1, (LOBBY,))


class FastCase(unittest.TestCase):
    def setUp(self):
        self.objects = Objects()
        self.shapes = Shapes()
        self.caches = Caches(self.objects, self.shapes)

    def made(self, *methods, j=0, known=400):
        code = (methods, 0)
        image, shapes = self.objects.image(), self.shapes.count()
        counts = (self.caches.hits, self.caches.misses, self.caches.forgotten)
        fast_code = make_fast(code, self.objects, self.shapes, self.caches, j, known)
        self.assertEqual((self.objects.image(), self.shapes.count()), (image, shapes))
        self.assertEqual((self.caches.hits, self.caches.misses, self.caches.forgotten), counts)
        return fast_code

    def rows(self, *methods, **more):
        return self.made(*methods, **more)[1]

    def ask(self, j, row, name, *slots):
        """An object with these slots is asked for a name at a site: its id and its key."""
        number = self.objects.make(slots)
        self.caches.ask((j, row), name, number)
        return number, self.caches.entries((j, row))[-1][0]


class TestInterface(FastCase):
    def test_names(self):
        self.assertEqual(make_fast.__module__, "reaimed.fast_code")
        self.assertEqual(plain_frames.__module__, "reaimed.fast_code")
        code = ((method(0, 0, *END),), 0)
        fast_code = make_fast(code=code, objects=self.objects, shapes=self.shapes, caches=self.caches, j=0, known=2)
        frames = plain_frames(fast_code=fast_code, at=1, self_value=ONE, holder=0, words=(TWO,), code=code)
        self.assertEqual(frames, (("method", 0, 1, ONE, 0, ("locals", (), -1), (TWO,), 0),))

    def test_kinds_of_values(self):
        self.ask(0, 1, "x", ("m", "var", ONE), ("x", "method", ("method", 1)))
        made = self.made(SEND_X, method(0, 3, *END))
        self.assertEqual(kinds_in(made), {tuple, str, int, None.__class__})
        self.assertEqual(len(made), 4)


class TestRows(FastCase):
    def test_rows_that_stay(self):
        rows = (push(1), ("pop",), push(1), push(2), ("prim", "+"), ("print",), ("method", 0), ("object", (("x", "var"),)),
                push("true"), ("assign", "x"), ("self",), push(2), ("put", "x", "const"), ("self",), ("drop", "x"),
                push("nothing"), push(1), ("call", 1), ("send", "x", 0), ("return",))
        made = self.made(method(0, 0, *rows))
        self.assertEqual(made, (0, rows, tuple(((0, at, -1, None),) for at in range(len(rows))), ()))

    def test_locals(self):
        code = method(1, 3, ("local", 0), ("set", 2), ("local", 2), ("set", 0), *END)
        self.assertEqual(self.rows(code)[:4], (("word", 0), ("setword", 2), ("word", 2), ("setword", 0)))

    def test_resends(self):
        self.caches.ask_resend((0, 1), "x", 0)
        code = method(0, 0, push(1), ("resend", "x", 1), ("return",))
        self.assertEqual(self.made(code), (
            0, (push(1), ("resend", "x", 1, -1, None), ("return",)), tuple(((0, at, -1, None),) for at in range(3)), ()))

    def test_jumps(self):
        code = method(0, 0, push("true"), ("jumpno", 4), push(1), ("jump", 5), push(2), ("jump", 7), push(3), ("return",))
        made = self.made(code)
        # The row 6 cannot be reached.
        self.assertEqual(made[1], (
            push("true"), ("jumpno", 4), push(1), ("jump", 5), push(2), ("jump", 6), ("return",)))
        self.assertEqual([place[0][1] for place in made[2]], [0, 1, 2, 3, 4, 5, 7])

    def test_loops(self):
        code = method(0, 0, ("jump", 3), push(1), ("return",), push("true"), ("jumpno", 1), ("jump", 3))
        self.assertEqual(self.rows(code), (
            ("jump", 3), push(1), ("return",), push("true"), ("jumpno", 1), ("jump", 3)))

    def test_rows_that_cannot_be_reached(self):
        code = method(0, 1, push(1), ("return",), ("local", 0), ("send", "x", 3), ("return",), push(2), ("print",))
        self.assertEqual(self.rows(code), (push(1), ("return",)))
        code = method(0, 1, ("jump", 2), ("pop",), ("jump", 4), ("pop",), ("jump", 0))
        self.assertEqual(self.made(code)[1:3], (
            (("jump", 1), ("jump", 2), ("jump", 0)), (((0, 0, -1, None),), ((0, 2, -1, None),), ((0, 4, -1, None),))))

    def test_codes_of_blocks(self):
        code = method(1, 1, ("outer", 1, 2), ("setouter", 2, 0), ("local", 0), ("home",))
        self.assertEqual(self.rows(SEND_X, code, j=1), (("outer", 1, 2), ("setouter", 2, 0), ("word", 0), ("home",)))

    def test_captured_methods(self):
        self.assertIsNone(self.made(method(0, 0, ("block", 0), ("return",))))

    def test_the_bound(self):
        code = method(0, 0, *[push(1), ("pop",)] * 4, *END)
        self.assertEqual(len(self.rows(code, known=10)), 10)
        for known in (9, 8, 1, 0):
            self.assertIsNone(self.made(code, known=known))
        # Rows that are left out do not count.
        code = method(0, 0, *END, *[push(1)] * 5, ("return",))
        self.assertEqual(len(self.rows(code, known=2)), 2)
        self.assertIsNone(self.made(code, known=1))

    def test_the_bound_ahead_of_the_target_of_a_jump(self):
        code = method(0, 0, push("true"), ("jumpno", 4), push(1), ("return",), push(2), ("return",))
        for known in range(6):
            self.assertIsNone(self.made(code, known=known))
        self.ask(0, 1, "x", ("x", "method", ("method", 1)))
        for known in range(9):
            self.assertIsNone(self.made(SEND_X, code, known=known))
        self.assertEqual(len(self.rows(SEND_X, code, known=9)), 9)

    def test_the_bound_counts_what_is_put_in_place(self):
        self.ask(0, 1, "x", ("x", "method", ("method", 1)))
        methods = (SEND_X, method(0, 0, *[push(1), ("pop",)] * 3, *END))
        self.assertEqual(len(self.rows(*methods, known=11)), 11)
        for known in (10, 9, 8, 4, 3, 2):
            self.assertIsNone(self.made(*methods, known=known))


class TestReads(FastCase):
    def test_own(self):
        for kind in ("var", "const", "parent", "varparent", "method"):
            self.setUp()
            number, key = self.ask(0, 1, "x", ("y", "var", ONE), ("x", kind, TWO))
            self.assertEqual(key, (1, ()))
            self.assertEqual(self.made(SEND_X), (
                0, (("self",), ("read", (1, ()), "x", -1), ("return",)), tuple(((0, at, -1, None),) for at in range(3)), ()))

    def test_held(self):
        for kind in ("var", "const", "parent", "varparent", "method"):
            self.setUp()
            self.objects.put(0, "x", kind, TWO)
            number, key = self.ask(0, 1, "x", ("p", "varparent", LOBBY))
            self.assertEqual(key, FREE)
            made = self.made(SEND_X)
            self.assertEqual(made[1][1], ("read", FREE, "x", 0))
            self.assertEqual(made[3], (0,))

    def test_methods_in_slots_of_other_kinds(self):
        for kind in ("var", "const", "parent", "varparent"):
            self.setUp()
            self.ask(0, 1, "x", ("x", kind, ("method", 1)))
            self.assertEqual(self.rows(SEND_X, method(0, 0, *END))[1], ("read", (1, ()), "x", -1))
            self.setUp()
            self.objects.put(0, "x", kind, ("method", 1))
            self.ask(0, 1, "x", ("p", "parent", LOBBY))
            self.assertEqual(self.rows(SEND_X, method(0, 0, *END))[1], ("read", (1, ()), "x", 0))

    def test_the_slot_of_the_holder_is_that_of_now(self):
        self.objects.put(0, "x", "var", TWO)
        self.ask(0, 1, "x", ("p", "parent", LOBBY))
        self.objects.assign(0, "x", ("method", 1))
        self.assertEqual(self.rows(SEND_X, method(0, 0, *END))[1], ("read", (1, ()), "x", 0))

    def test_data_with_arguments(self):
        self.ask(0, 1, "x", ("x", "const", ONE))
        code = method(0, 0, ("self",), ("pop",), ("self",), push(1), ("send", "x", 1), ("return",))
        self.ask(0, 4, "x", ("x", "const", ONE))
        made = self.made(code)
        self.assertEqual((made[1][4], made[3]), (("send", "x", 1), ()))


class TestEntries(FastCase):
    def test_no_entry(self):
        self.assertEqual(self.rows(SEND_X), (("self",), ("send", "x", 0), ("return",)))

    def test_two_entries(self):
        self.ask(0, 1, "x", ("x", "const", ONE))
        self.ask(0, 1, "x", ("x", "const", TWO))
        self.assertEqual(self.rows(SEND_X)[1], ("send", "x", 0))

    def test_none_and_several(self):
        self.ask(0, 1, "x", ("p", "parent", LOBBY))
        self.assertEqual(self.made(SEND_X)[1:], (
            (("self",), ("send", "x", 0), ("return",)), tuple(((0, at, -1, None),) for at in range(3)), ()))
        self.setUp()
        one, two = [self.objects.make((("x", "const", ONE),)) for _ in range(2)]
        self.ask(0, 1, "x", ("p", "parent", ref(one)), ("q", "parent", ref(two)))
        self.assertEqual(self.made(SEND_X)[1][1], ("send", "x", 0))
        self.assertEqual(self.made(SEND_X)[3], ())

    def test_sites_are_methods_and_rows(self):
        self.ask(1, 1, "x", ("x", "const", ONE))
        self.ask(0, 0, "x", ("x", "const", ONE))
        self.ask(0, 2, "x", ("x", "const", ONE))
        self.assertEqual(self.rows(SEND_X)[1], ("send", "x", 0))
        self.assertEqual(self.rows(SEND_X, SEND_X, j=1)[1], ("read", (1, ()), "x", -1))

    def test_an_entry_behind_a_change(self):
        number, _ = self.ask(0, 1, "x", ("p", "parent", LOBBY))
        self.assertEqual(self.rows(SEND_X)[1], ("send", "x", 0))
        self.objects.put(0, "x", "const", ONE)
        self.caches.changed(0)
        self.assertEqual(self.rows(SEND_X)[1], ("send", "x", 0))
        self.caches.ask((0, 1), "x", number)
        self.assertEqual(self.rows(SEND_X)[1], ("read", (1, ()), "x", 0))

    def test_rests(self):
        ids = [self.objects.make((("p", "parent", LOBBY), ("x", "const", ONE))) for _ in range(3)]
        rows = []
        for at, number in enumerate((ids[2], ids[0])):
            self.ask(0, 3 * at + 1, "x", ("p", "parent", ref(number)))
            rows += [("self",), ("send", "x", 0), ("pop",)]
        self.ask(0, 7, "y", ("p", "parent", ref(ids[1])))
        self.ask(0, 10, "x", ("p", "parent", ref(ids[0])), ("q", "var", ONE))
        rows += [("self",), ("send", "y", 0), ("pop",), ("self",), ("send", "x", 0), ("pop",), ("self",), push(1)]
        self.ask(0, 14, "lobby", ("p", "parent", ref(ids[1])))
        rows += [("send", "lobby", 1), ("return",)]
        made = self.made(method(0, 0, *rows))
        # The entries of the rows 7 and 14 are not used.
        self.assertEqual([row[0] for row in made[1] if row[0] in ("read", "send")], ["read", "read", "send", "read", "send"])
        self.assertEqual(made[3], (ids[0], ids[2]))

    def test_rests_of_a_longer_way(self):
        ids = [0]
        for _ in range(3):
            ids.append(self.objects.make((("p", "parent", ref(ids[-1])),)))
        self.ask(0, 1, "lobby", ("p", "parent", ref(ids[-1])))
        made = self.made(method(0, 0, ("self",), ("send", "lobby", 0), ("return",)))
        self.assertEqual((made[1][1], made[3]), (("read", (made[1][1][1][0], ()), "lobby", 0), (0, 1, 2, 3)))


class TestEnters(FastCase):
    def test_own(self):
        self.ask(0, 4, "m", ("x", "var", ONE), ("m", "method", ("method", 1)))
        caller = method(0, 2, push(9), push(8), ("self",), push(1), ("send", "m", 1), ("pop",), ("return",))
        inner = method(1, 2, ("self",), ("local", 0), ("set", 1), ("return",))
        self.assertEqual(self.made(caller, inner), (0, (
            push(9), push(8), ("self",), push(1), ("enter", (1, ()), "m", 1, 1, -1, 1),
            ("word", 4), ("word", 5), ("setword", 6), ("leave", 4, 9), ("pop",), ("return",)), (
            ((0, 0, -1, None),), ((0, 1, -1, None),), ((0, 2, -1, None),), ((0, 3, -1, None),), ((0, 4, -1, None),),
            ((0, 5, -1, None), (1, 0, 4, -1)), ((0, 5, -1, None), (1, 1, 4, -1)), ((0, 5, -1, None), (1, 2, 4, -1)),
            ((0, 5, -1, None), (1, 3, 4, -1)), ((0, 5, -1, None),), ((0, 6, -1, None),)), ()))

    def test_held(self):
        self.objects.put(0, "x", "method", ("method", 1))
        self.ask(0, 1, "x", ("p", "varparent", LOBBY))
        made = self.made(SEND_X, method(0, 0, ("resend", "x", 0), ("return",)))
        self.assertEqual(made[1], (
            ("self",), ("enter", FREE, "x", 0, 1, 0, 0), ("resend", "x", 0, 0, 0), ("leave", 0, 4), ("return",)))
        self.assertEqual(made[2][2:4], (((0, 2, -1, None), (1, 0, 0, 0)), ((0, 2, -1, None), (1, 1, 0, 0))))
        self.assertEqual(made[3], (0,))

    def test_resends_of_own_levels(self):
        self.ask(0, 1, "x", ("x", "method", ("method", 1)))
        made = self.made(SEND_X, method(0, 0, ("resend", "x", 0), ("return",)))
        self.assertEqual(made[1][2], ("resend", "x", 0, 0, -1))

    def test_jumps_and_several_returns(self):
        self.ask(0, 1, "x", ("x", "method", ("method", 1)))
        inner = method(0, 0, push("true"), ("jumpno", 5), push(1), ("return",), push(3), push(2), ("jump", 7), ("return",))
        made = self.made(SEND_X, inner)
        self.assertEqual(made[1], (
            ("self",), ("enter", (1, ()), "x", 0, 1, -1, 0), push("true"), ("jumpno", 6), push(1), ("leave", 0, 9),
            push(2), ("jump", 8), ("leave", 0, 9), ("return",)))

    def test_jumps_of_the_caller(self):
        self.ask(0, 1, "x", ("x", "method", ("method", 1)))
        caller = method(0, 0, ("self",), ("send", "x", 0), ("jumpno", 0), ("jump", 0))
        self.assertEqual(self.rows(caller, method(0, 0, push("true"), ("return",))), (
            ("self",), ("enter", (1, ()), "x", 0, 1, -1, 0), push("true"), ("leave", 0, 4), ("jumpno", 0), ("jump", 0)))

    def test_a_method_that_never_returns(self):
        self.ask(0, 1, "x", ("x", "method", ("method", 1)))
        self.assertEqual(self.rows(SEND_X, method(0, 0, ("jump", 0))), (
            ("self",), ("enter", (1, ()), "x", 0, 1, -1, 0), ("jump", 2), ("return",)))

    def test_wrong_numbers_of_arguments(self):
        for many in (0, 1, 2, 3):
            self.setUp()
            self.ask(0, 1 + many, "x", ("x", "method", ("method", 1)))
            caller = method(0, 0, ("self",), *[push(1)] * many, ("send", "x", many), ("return",))
            word = self.rows(caller, method(2, 2, *END))[1 + many][0]
            self.assertEqual(word, "enter" if many == 2 else "send")

    def test_captured_methods(self):
        self.ask(0, 1, "x", ("x", "method", ("method", 1)))
        self.assertEqual(self.rows(SEND_X, method(0, 0, ("block", 0), ("return",)))[1], ("send", "x", 0))

    def test_methods_of_thirty_rows(self):
        for many in (30, 31):
            self.setUp()
            self.ask(0, 1, "x", ("x", "method", ("method", 1)))
            rows = [push(1)] * (many - 1) + [("return",)]
            self.assertEqual(self.rows(SEND_X, method(0, 0, *rows))[1][0], "enter" if many == 30 else "send")
            # Rows that cannot be reached count, too.
            rows = [push(1), ("return",)] + [push(1)] * (many - 3) + [("return",)]
            made = self.made(SEND_X, method(0, 0, *rows))
            self.assertEqual(len(made[1]), 5 if many == 30 else 3)

    def test_the_method_itself(self):
        self.ask(0, 1, "x", ("x", "method", ("method", 0)))
        self.assertEqual(self.made(SEND_X)[1:], (
            SEND_X[3], tuple(((0, at, -1, None),) for at in range(3)), ()))

    def test_a_method_that_is_a_level(self):
        # 0 sends to 1, which sends to 0 and to itself.
        self.ask(0, 1, "x", ("x", "method", ("method", 1)))
        self.ask(1, 1, "x", ("x", "method", ("method", 0)))
        self.ask(1, 3, "x", ("x", "method", ("method", 1)))
        other = method(0, 0, ("self",), ("send", "x", 0), ("self",), ("send", "x", 0), ("return",))
        words = [row[0] for row in self.rows(SEND_X, other)]
        self.assertEqual(words, ["self", "enter", "word", "send", "word", "send", "leave", "return"])
        # Twice side by side is no level within itself.
        self.setUp()
        self.ask(0, 1, "x", ("x", "method", ("method", 1)))
        self.ask(0, 3, "x", ("x", "method", ("method", 1)))
        words = [row[0] for row in self.rows(other, method(0, 0, *END))]
        self.assertEqual(words, ["self", "enter", "push", "leave", "self", "enter", "push", "leave", "return"])

    def test_three_levels_and_a_fourth(self):
        for j in range(3):
            self.ask(j, 1, "x", ("x", "method", ("method", j + 1)), ("y" + str(j), "const", ONE))
        made = self.made(SEND_X, SEND_X, SEND_X, method(0, 0, *END))
        self.assertEqual(made[1], (
            ("self",), ("enter", (1, ()), "x", 0, 1, -1, 0), ("word", 0), ("enter", (2, ()), "x", 0, 2, -1, 0), ("word", 1),
            ("send", "x", 0), ("leave", 1, 7), ("leave", 0, 8), ("return",)))
        self.assertEqual(made[2][5], ((0, 2, -1, None), (1, 2, 0, -1), (2, 1, 1, -1)))

    def test_reads_at_the_third_level(self):
        self.ask(0, 1, "x", ("x", "method", ("method", 1)))
        self.ask(1, 1, "x", ("x", "method", ("method", 2)), ("z", "var", ONE))
        self.ask(2, 1, "x", ("x", "var", ("method", 1)))
        words = [row[0] for row in self.rows(SEND_X, SEND_X, SEND_X)]
        self.assertEqual(words, ["self", "enter", "word", "enter", "word", "read", "leave", "leave", "return"])

    def test_words_of_three_levels(self):
        self.ask(0, 3, "m", ("m", "method", ("method", 1)))
        self.ask(1, 4, "m", ("m", "method", ("method", 2)), ("z", "var", ONE))
        first = method(1, 2, push(1), ("self",), ("local", 0), ("send", "m", 1), ("return",))
        second = method(1, 3, push(1), ("set", 2), ("self",), ("local", 2), ("send", "m", 1), ("return",))
        third = method(1, 2, ("self",), ("local", 0), ("set", 1), ("local", 1), ("return",))
        self.assertEqual(self.rows(first, second, third), (
            push(1), ("self",), ("word", 0), ("enter", (1, ()), "m", 1, 1, -1, 2),
            push(1), ("setword", 6), ("word", 3), ("word", 6), ("enter", (2, ()), "m", 1, 2, -1, 1),
            ("word", 7), ("word", 8), ("setword", 9), ("word", 9), ("leave", 7, 14),
            ("leave", 3, 15), ("return",)))

    def test_rests_of_all_levels(self):
        one, two = [self.objects.make((("x", "method", ("method", j)), ("p", "parent", LOBBY))) for j in (1, 2)]
        self.ask(0, 1, "x", ("p", "parent", ref(two)))
        self.ask(2, 1, "x", ("p", "parent", ref(one)), ("z", "var", ONE))
        self.ask(1, 1, "lobby", ("p", "parent", ref(two)), ("zz", "var", ONE))
        lobby = method(0, 0, ("self",), ("send", "lobby", 0), ("return",))
        made = self.made(SEND_X, lobby, SEND_X)
        self.assertEqual([row[0] for row in made[1]], [
            "self", "enter", "word", "enter", "word", "read", "leave", "leave", "return"])
        self.assertEqual(made[3], (0, one, two))


class TestPlainFrames(FastCase):
    def frames(self, made, at, words, *methods):
        code = (methods, 0)
        frames = plain_frames(made, at, ref(7), 5, words, code)
        self.assertEqual(frames.__class__, tuple)
        return frames

    def test_one_level(self):
        code = method(1, 2, push(1), push(2), ("prim", "+"), ("return",))
        made = self.made(code)
        for at, stack in enumerate(((), (ONE,), (ONE, TWO), (num(3),))):
            self.assertEqual(self.frames(made, at, (num(8), NOTHING) + stack, code), (
                ("method", 0, at, ref(7), 5, ("locals", (num(8), NOTHING), -1), stack, 0),))

    def levels(self):
        """Three levels: the first two with own answers, the third held by the object 1."""
        holder = self.objects.make((("m", "method", ("method", 2)),))
        self.ask(0, 2, "m", ("m", "method", ("method", 1)))
        self.ask(1, 3, "m", ("p", "parent", ref(holder)))
        methods = (
            method(0, 1, push(1), ("self",), ("send", "m", 0), ("prim", "+"), ("return",)),
            method(0, 2, push(2), ("self",), ("local", 0), ("send", "m", 1), ("prim", "+"), ("return",)),
            method(1, 2, push(3), push(4), ("prim", "+"), ("return",)))
        return self.made(*methods), methods, holder

    def test_two_and_three_levels(self):
        made, methods, holder = self.levels()
        self.assertEqual([row[0] for row in made[1]], [
            "push", "self", "enter", "push", "word", "word", "enter", "push", "push", "prim", "leave", "prim", "leave", "prim",
            "return"])
        first = ("method", 0, 3, ref(7), 5, ("locals", (num(8),), -1), (ONE,), 0)
        # Behind the first enter row, at the first row of the level.
        words = (num(8), ONE, ref(3), NOTHING, NOTHING)
        self.assertEqual(self.frames(made, 3, words, *methods), (
            first, ("method", 1, 0, ref(3), 3, ("locals", (NOTHING, NOTHING), -1), (), 0)))
        # In the middle of it, before the second enter row.
        words = (num(8), ONE, ref(3), TWO, NOTHING, num(2), ref(6), TWO)
        self.assertEqual(self.frames(made, 6, words, *methods), (
            first, ("method", 1, 3, ref(3), 3, ("locals", (TWO, NOTHING), -1), (num(2), ref(6), TWO), 0)))
        # At the first row of the third level, and in its middle.
        second = ("method", 1, 4, ref(3), 3, ("locals", (TWO, NOTHING), -1), (num(2),), 0)
        for at, row, stack in ((7, 0, ()), (9, 2, (num(3), num(4))), (10, 3, (num(7),))):
            self.assertEqual(self.frames(made, at, words + (NOTHING,) + stack, *methods), (
                first, second, ("method", 2, row, ref(6), holder, ("locals", (TWO, NOTHING), -1), stack, 0)))
        # Behind the sends that were put in place.
        words = words[:6] + (num(7),)
        self.assertEqual(self.frames(made, 11, words, *methods), (first, second[:6] + ((num(2), num(7)), 0)))
        self.assertEqual(self.frames(made, 13, (num(8), ONE, num(9)), *methods), (first[:6] + ((ONE, num(9)), 0),))

    def test_before_the_first_enter_row(self):
        made, methods, _ = self.levels()
        self.assertEqual(self.frames(made, 2, (num(8), ONE, ref(3)), *methods), (
            ("method", 0, 2, ref(7), 5, ("locals", (num(8),), -1), (ONE, ref(3)), 0),))

    def test_a_self_that_is_no_object(self):
        code = method(0, 0, *END)
        self.assertEqual(plain_frames(self.made(code), 0, ONE, 3, (), ((code,), 0)), (
            ("method", 0, 0, ONE, 3, ("locals", (), -1), (), 0),))


if __name__ == "__main__":
    unittest.main()
