"""Point 4.7: each error with its word, what it leaves as it was, and the order in which errors are looked for."""

import unittest

from machines import END, NOTHING, MachineCase, method, push

LOBBY_X = (("self",), push(5), ("put", "x", "const"))
METHOD_M = (("self",), ("method", 1), ("put", "m", "method"))
# A slot of the kind method whose value is a number, and a method in a const.
DATA = (("self",), push(5), ("put", "n", "method"), ("self",), ("method", 1), ("put", "k", "const"))
TWO_PARENTS = (("self",), ("self",), ("object", (("p", "parent"), ("q", "parent"))))


class ErrorCase(MachineCase):
    # Code 1 takes one argument, code 2 is that of a block which takes one.
    others = (method(1, 1, *END), method(1, 1, *END))

    def error(self, rows, word, others=None):
        """The last of the rows has this error, which changes nothing but the end and the ticks."""
        several = self.others if others is None else others
        machine = self.started(method(0, 1, *rows, ("pop",), *END), *several, many=len(rows) - 1)
        self.stays(machine, word)

    def error_without_value(self, rows, word):
        """The same for a row that pushes no value."""
        machine = self.started(method(0, 1, *rows, *END), *self.others, many=len(rows) - 1)
        self.stays(machine, word)

    def stays(self, machine, word):
        before, ticks = machine.state(), machine.ticks
        self.assertIsNone(machine.end)
        ids = (machine.next_scope, machine.next_block, machine.last_mark, machine.objects.next_id)
        self.assertIsNone(machine.tick())
        self.assertEqual(machine.end, ("error", word))
        self.assertEqual(machine.state()[:5], before[:5])
        self.assertEqual(ids, (machine.next_scope, machine.next_block, machine.last_mark, machine.objects.next_id))
        self.assertEqual(machine.ticks, ticks + 1)
        machine.tick()
        self.assertEqual((machine.end, machine.ticks), (("error", word), ticks + 1))
        self.assertEqual(machine.state()[:5], before[:5])


class TestSends(ErrorCase):
    def test_none(self):
        self.error((("self",), ("send", "x", 0)), "none")
        self.error((("self",), push(1), ("send", "x", 1)), "none")
        for word in (1, "true", "false", "nothing"):
            self.error((push(word), ("send", "lobby", 0)), "none")
        self.error((("method", 1), ("send", "lobby", 0)), "none")

    def test_none_for_a_block(self):
        block = method(0, 0, ("block", 1), ("send", "lobby", 0), ("return",))
        self.stays(self.started(block, method(0, 0, *END), many=1), "none")

    def test_several(self):
        rows = (push(1), ("object", (("x", "const"),)), push(1), ("object", (("x", "const"),)),
                ("object", (("p", "parent"), ("q", "varparent"))))
        self.error((*rows, ("send", "x", 0)), "several")
        self.error((*rows, push(1), ("send", "x", 1)), "several")

    def test_arguments_of_data(self):
        self.error((*LOBBY_X, ("self",), push(1), ("send", "x", 1)), "arguments")
        self.error((*LOBBY_X, ("self",), push(1), push(1), ("send", "x", 2)), "arguments")
        self.error((*DATA, ("self",), push(1), ("send", "n", 1)), "arguments")
        self.error((*DATA, ("self",), push(1), ("send", "k", 1)), "arguments")

    def test_arguments_of_methods(self):
        self.error((*METHOD_M, ("self",), ("send", "m", 0)), "arguments")
        self.error((*METHOD_M, ("self",), push(1), push(1), ("send", "m", 2)), "arguments")
        captured = method(1, 1, ("block", 1), ("return",))
        self.error((*METHOD_M, ("self",), ("send", "m", 0)), "arguments", others=(captured,))

    def test_blocks_in_slots_are_data(self):
        rows = (("self",), ("block", 2), ("put", "b", "method"), ("self",), push(1), ("send", "b", 1))
        self.error(rows, "arguments")


class TestResends(ErrorCase):
    def test_none(self):
        self.error((*LOBBY_X, ("resend", "x", 0)), "none")
        self.error((*LOBBY_X, push(1), ("resend", "x", 1)), "none")
        self.error((("self",), push(1), ("put", "p", "parent"), ("resend", "x", 0)), "none")

    def test_several(self):
        holder = (push(1), ("object", (("x", "const"),)))
        rows = (("self",), *holder, ("put", "p", "parent"), ("self",), *holder, ("put", "q", "varparent"))
        self.error((*rows, ("resend", "x", 0)), "several")

    def test_arguments(self):
        rows = (("self",), push(1), ("method", 1), ("object", (("x", "const"), ("m", "method"))), ("put", "p", "parent"))
        self.error((*rows, push(1), ("resend", "x", 1)), "arguments")
        self.error((*rows, ("resend", "m", 0)), "arguments")
        self.error((*rows, push(1), push(1), ("resend", "m", 2)), "arguments")


class TestCalls(ErrorCase):
    def test_values_that_are_no_blocks(self):
        for row in (push(0), push("true"), push("nothing"), ("self",), ("method", 1)):
            self.error((row, ("call", 0)), "block")
            self.error((row, push(1), ("call", 1)), "block")

    def test_arguments(self):
        self.error((("block", 2), ("call", 0)), "arguments")
        self.error((("block", 2), push(1), push(2), ("call", 2)), "arguments")
        self.error((("block", 2), ("call", 0)), "arguments", others=(method(0, 0, *END), method(1, 1, ("block", 1), ("return",))))


class TestChanges(ErrorCase):
    def test_assign_none_and_several(self):
        self.error_without_value((("self",), push(1), ("assign", "x")), "none")
        for word in (1, "nothing"):
            self.error_without_value((push(word), push(1), ("assign", "lobby")), "none")
        rows = (push(1), ("object", (("x", "var"),)), push(1), ("object", (("x", "var"),)),
                ("object", (("p", "parent"), ("q", "parent"))), push(1), ("assign", "x"))
        self.error_without_value(rows, "several")

    def test_assign_constant(self):
        for kind in ("const", "parent", "method"):
            rows = (("self",), push(1), ("put", "x", kind))
            self.error_without_value((*rows, ("self",), push(2), ("assign", "x")), "constant")
            self.error_without_value((*rows, ("self",), ("object", (("p", "parent"),)), push(2), ("assign", "x")), "constant")
        self.error_without_value((*METHOD_M, ("self",), push(2), ("assign", "m")), "constant")

    def test_put_none(self):
        for row in (push(1), push("true"), push("nothing"), ("method", 1), ("block", 2)):
            self.error_without_value((row, push(1), ("put", "x", "var")), "none")

    def test_drop_none(self):
        for row in (push(1), push("true"), push("nothing"), ("method", 1), ("block", 2)):
            self.error_without_value((row, ("drop", "lobby")), "none")
        self.error_without_value((("self",), ("drop", "x")), "none")
        # A slot of a parent is none of its own.
        self.error_without_value((("self",), ("object", (("p", "parent"),)), ("drop", "lobby")), "none")


class TestOthers(ErrorCase):
    def test_truth(self):
        for row in (push(0), push(1), push("nothing"), ("self",), ("method", 1), ("block", 2)):
            self.error_without_value((row, ("jumpno", 0)), "truth")

    def test_number(self):
        for sign in ("<", "<=", "+", "-", "*", "div", "mod"):
            for rows in ((push("true"), push(0)), (push(0), ("self",)), (push("nothing"), push("nothing"))):
                self.error((*rows, ("prim", sign)), "number")

    def test_division(self):
        for sign in ("div", "mod"):
            self.error((push(1), push(0), ("prim", sign)), "division")
        self.check_text("main { print 1; print 1 div (2 - 2); }", 1, end=("error", "division"))

    def test_overflow(self):
        rows = (push(10 ** 12), push(1000), ("prim", "*"))
        self.error((*rows, push(1), ("prim", "+")), "overflow")
        self.error((push(0), *rows, ("prim", "-"), push(1), ("prim", "-")), "overflow")
        self.error((*rows, push(2), ("prim", "*")), "overflow")
        machine = self.started(method(0, 0, push(0), *rows, ("prim", "-"), push(0), ("prim", "-"), ("return",)), many=7)
        self.assertEqual((machine.end, machine.frames[-1][6]), (None, (("num", -10 ** 15),)))

    def test_gone(self):
        home = method(0, 0, push(1), ("home",))
        self.stays(self.started(home, many=1), "gone")
        block = method(0, 0, ("block", 1), ("call", 0), ("return",))
        machine = self.started(block, home, many=4)
        self.assertEqual((machine.end, machine.frames), (("done",), []))

    def test_gone_in_a_method_of_a_captured_one(self):
        # The frame of the method that is not captured has the mark 0, whatever the frames below have.
        main = method(0, 0, ("block", 1), ("pop",), ("self",), ("method", 1), ("put", "m", "method"), ("self",),
                      ("send", "m", 0), ("return",))
        self.stays(self.started(main, method(0, 0, push(3), ("home",)), many=8), "gone")

    def test_gone_when_the_home_has_ended(self):
        machine = self.text("method m() { return fn () { return 1; }; } main { let f = m(); f.call(); }")
        while machine.frames[-1][0] != "block":
            machine.tick()
        self.go(machine, 1)
        self.stays(machine, "gone")


class TestOrder(ErrorCase):
    def test_searches_before_arguments(self):
        self.error((("self",), push(1), push(2), ("send", "x", 2)), "none")
        self.error((push(1), push(1), push(2), ("resend", "x", 2)), "none")

    def test_block_before_arguments(self):
        self.error((push(0), push(1), push(2), ("call", 2)), "block")

    def test_searches_before_constant(self):
        rows = (push(1), ("object", (("x", "const"),)), push(1), ("object", (("x", "const"),)),
                ("object", (("p", "parent"), ("q", "parent"))), push(1), ("assign", "x"))
        self.error_without_value(rows, "several")

    def test_number_before_division_and_overflow(self):
        self.error((push("true"), push(0), ("prim", "div")), "number")
        self.error((push(0), push("nothing"), ("prim", "mod")), "number")

    def test_a_first_error_ends_everything(self):
        self.check_text("main { print 1; print nothing + 1; print 2; }", 1, end=("error", "number"))
        self.check_text("main { let f = fn () { x; }; print 1; f.call(); }", 1, end=("error", "none"))

    def test_frames_stay_behind_an_error(self):
        machine = self.run_whole(self.text("method m(n) { if n == 0 { n.x(); } m(n - 1); } main { m(50); }"))
        self.assertEqual((machine.end, len(machine.frames)), (("error", "none"), 52))
        self.assertEqual(machine.frames[-1][5], ("locals", (("num", 0),), -1))
        self.assertEqual(machine.frames[-1][6], (("num", 0),))
        self.assertNotEqual(machine.frames[-1][6], (NOTHING,))


if __name__ == "__main__":
    unittest.main()
