"""Point 2.8: which values are programs of plain code, and the heights of rows."""

import unittest

from reaimed.check_code import check_code, heights
from reaimed.emit import compile_text, emit
from reaimed.errors import BadCode
from reaimed.tokens import KEYWORDS
from values import Chance

ONE = ("push", ("num", 1))
NOTHING = ("push", ("nothing",))
POP = ("pop",)
RETURN = ("return",)
END = (NOTHING, RETURN)
RIGHT = (0, 0, False, END)
KINDS = ("const", "var", "parent", "varparent", "method")
SIGNS = ("==", "<", "<=", "+", "-", "*", "div", "mod")

# Each form of row, with the number of values that it pops and pushes.
ROWS = {
    ("push", ("num", 0)): (0, 1), ("push", ("num", 10 ** 12)): (0, 1), ("push", ("true",)): (0, 1),
    ("push", ("false",)): (0, 1), ("push", ("nothing",)): (0, 1), ("self",): (0, 1), ("local", 0): (0, 1),
    ("local", 2): (0, 1), ("set", 0): (1, 0), ("set", 2): (1, 0), ("outer", 1, 0): (0, 1),
    ("outer", 10 ** 20, 10 ** 20): (0, 1), ("setouter", 1, 0): (1, 0), ("setouter", 10 ** 20, 10 ** 20): (1, 0),
    ("pop",): (1, 0), ("send", "a", 0): (1, 1), ("send", "a", 3): (4, 1), ("resend", "a", 0): (0, 1),
    ("resend", "a", 3): (3, 1), ("call", 0): (1, 1), ("call", 3): (4, 1), ("assign", "a"): (2, 0), ("drop", "a"): (1, 0),
    ("object", ()): (0, 1), ("object", tuple(("a", kind) for kind in KINDS)): (5, 1), ("method", 0): (0, 1),
    ("method", 1): (0, 1), ("block", 0): (0, 1), ("block", 1): (0, 1), ("jump", 0): None, ("jumpno", 0): None,
    ("print",): (1, 0), **{("put", "a", kind): (2, 0) for kind in KINDS}, **{("prim", sign): (2, 1) for sign in SIGNS},
}
COUNTS = (-1, True, False, "0", None, (0,))
NAMES = ("", "1", "1a", "_a", "a b", " a", "a ", "a-b", "a.b", "A\n", "\u00e9", "a\u00e9", "a\u0661", 1, None, True, (), ("a",),
         *KEYWORDS)


class CheckCase(unittest.TestCase):
    def right(self, code):
        self.assertIsNone(check_code(code), code)

    def wrong(self, index, code):
        with self.assertRaises(BadCode, msg=code) as caught:
            check_code(code)
        self.assertEqual(caught.exception.index, index, code)

    def right_code(self, one):
        """Checks that a code is right, in several places of a program."""
        self.right(((RIGHT, one), 0))
        self.right(((RIGHT, RIGHT, one, RIGHT), 0))
        if one[0] == 0:
            self.right(((one, RIGHT), 0))

    def wrong_code(self, one):
        """Checks that a code is wrong, in several places of a program."""
        self.wrong(1, ((RIGHT, one), 0))
        self.wrong(2, ((RIGHT, RIGHT, one, RIGHT), 0))
        self.wrong(1, ((RIGHT, one, one), 0))
        self.wrong(1, ((RIGHT, one, RIGHT, ()), 0))
        if one.__class__ is tuple and one[:1] == (0,) and one[0].__class__ is int:
            self.wrong(0, ((one, RIGHT), 0))

    def code(self, rows, params=0, places=3):
        captured = any(row.__class__ is tuple and row[:1] == ("block",) for row in rows)
        return (params, places, captured, tuple(rows))

    def right_rows(self, *rows):
        self.right_code(self.code(rows))

    def wrong_rows(self, *rows):
        self.wrong_code(self.code(rows))


class TestInterface(CheckCase):
    def test_functions_stand_in_their_file(self):
        self.assertEqual(check_code.__module__, "reaimed.check_code")
        self.assertEqual(heights.__module__, "reaimed.check_code")

    def test_arguments_can_be_passed_by_name(self):
        self.assertIsNone(check_code(code=((RIGHT,), 0)))
        self.assertEqual(heights(rows=END), [0, 1])


class TestRight(CheckCase):
    def test_emitted_code(self):
        self.right(compile_text("main { }"))
        self.right(compile_text("object o { a = fn(b) { return b; }; method m(c) { c.d := 1; } } main { o.m(1); }"))
        for seed in range(100):
            self.right(emit(Chance(seed).program(5)))

    def test_each_kind_of_row(self):
        for row, effect in ROWS.items():
            if effect is not None:
                pops, pushes = effect
                self.right_rows(*[ONE] * pops, row, *[POP] * pushes, *END)
        self.right_rows(("jump", 0), *END)
        self.right_rows(ONE, ("jumpno", 0), *END)

    def test_returns_and_homes(self):
        self.right_rows(ONE, RETURN)
        self.right_rows(ONE, ("home",))
        self.right_rows(ONE, ONE, ONE, RETURN)
        self.right_rows(ONE, ONE, ONE, ("home",))

    def test_numbers_of_locals(self):
        for params, places in ((0, 0), (0, 1), (1, 1), (2, 5), (10 ** 20, 10 ** 20)):
            self.right_code((params, places, False, END))

    def test_main_may_be_any_code_without_parameters(self):
        other = (2, 2, False, END)
        self.right(((other, RIGHT), 1))
        self.right(((RIGHT, other, (0, 7, False, END)), 2))

    def test_names(self):
        for name in ("a", "Z", "a_", "a1", "main2", "Main", "_".join("ab"), "lobby"):
            self.right_rows(("resend", name, 0), *END)
            self.right_rows(ONE, ("object", ((name, "const"),)), *END)

    def test_names_may_occur_twice_in_an_object(self):
        self.right_rows(ONE, ONE, ("object", (("a", "const"), ("a", "var"))), *END)


class TestWholes(CheckCase):
    def test_other_forms(self):
        for code in (None, 0, 1, -1, True, False, "", "code", (), (0,), (RIGHT,), ((RIGHT,),), ((RIGHT,), 0, 0),
                     (0, (RIGHT,)), ((), 0), (None, 0), ("a", 0), (True, 0), (1, 0), ((RIGHT,), None), ((RIGHT,), "0"),
                     ((RIGHT,), (0,)), ((RIGHT,), ())):
            self.wrong(-1, code)

    def test_the_index_of_main(self):
        self.wrong(-1, ((RIGHT,), 1))
        self.wrong(-1, ((RIGHT,), -1))
        self.wrong(-1, ((RIGHT,), 10 ** 20))
        self.wrong(-1, ((RIGHT,), False))
        self.wrong(-1, ((RIGHT, RIGHT), True))

    def test_the_code_of_main(self):
        for one in (None, 0, "", "0", (), (None,), ("0",), (False, 0, False, END), (True, 1, False, END),
                    (1, 1, False, END), (-1, 0, False, END), ((0,), 0, False, END), ((),)):
            self.wrong(-1, ((one,), 0))
            self.wrong(-1, ((RIGHT, one), 1))
            self.wrong(-1, (((), one), 1))

    def test_before_all_codes_are_looked_at(self):
        self.wrong(-1, (((), RIGHT), 2))
        self.wrong(-1, (((), (1, 1, False, END)), 1))

    def test_main_may_be_wrong_in_another_way(self):
        self.wrong(0, (((0,), RIGHT), 0))
        self.wrong(1, ((RIGHT, (0, "x")), 1))
        self.wrong(0, ((None, (0, "x")), 1))


class TestCodes(CheckCase):
    def test_the_first_one_that_is_wrong(self):
        self.wrong(1, ((RIGHT, None, ()), 0))
        self.wrong(3, ((RIGHT, RIGHT, RIGHT, (0, 0, True, END), RIGHT), 0))

    def test_other_forms(self):
        for one in (None, 0, True, "", (), (0,), (0, 0), (0, 0, False), (0, 0, False, END, 0), END, (END,)):
            self.wrong_code(one)

    def test_params(self):
        for params in COUNTS:
            self.wrong_code((params, 3, False, END))

    def test_locals(self):
        for places in COUNTS:
            self.wrong_code((0, places, False, END))

    def test_locals_are_at_least_params(self):
        for params, places in ((1, 0), (5, 4), (10 ** 20, 10 ** 20 - 1)):
            self.wrong_code((params, places, False, END))

    def test_captured(self):
        block = (("block", 0), RETURN)
        self.right_code((0, 0, True, block))
        self.wrong_code((0, 0, False, block))
        self.wrong_code((0, 0, True, END))
        for captured in (0, 1, None, "", "0", "1", (), (True,), "False"):
            self.wrong_code((0, 0, captured, END))
            self.wrong_code((0, 0, captured, block))

    def test_captured_by_a_row_that_cannot_be_reached(self):
        rows = END + (("block", 0),)
        self.right_code((0, 0, True, rows))
        self.wrong_code((0, 0, False, rows))

    def test_a_method_row_does_not_capture(self):
        self.right_code((0, 0, False, (("method", 0), RETURN)))
        self.wrong_code((0, 0, True, (("method", 0), RETURN)))

    def test_rows(self):
        for rows in ((), None, 0, "", "return", True, ("return",), (1,), (None,), ((),), (((),),), ("",)):
            self.wrong_code((0, 0, False, rows))


class TestForms(CheckCase):
    """Rows of other forms, where they can be reached and where not."""

    def wrong_row(self, *rows):
        for row in rows:
            self.wrong_rows(ONE, ONE, ONE, row, *END)
            self.wrong_rows(*END, row)

    def right_anywhere(self, *rows):
        """The heights of a row that can't be reached do not matter."""
        for row in rows:
            self.right_rows(*END, row)
            self.right_rows(*END, row, row, ONE)

    def test_each_form_where_it_cannot_be_reached(self):
        self.right_anywhere(*ROWS, ("home",), RETURN)

    def test_words(self):
        self.wrong_row(("",), ("Push", ("num", 1)), ("noop",), ("returns",), ("push ",), (0,), (None,), (True,), ((),),
                       (("pop",),), "pop", "return", None, 0, True, (), ("enter",), ("read",))

    def test_too_many_and_too_few_parts(self):
        for row in [*ROWS, RETURN, ("home",)]:
            self.wrong_row((*row, 0), (*row, "a"), (*row, ()), (*row, None))
            if len(row) > 1:
                self.wrong_row(row[:-1], row[:1])

    def test_values(self):
        for value in (("num",), ("num", -1), ("num", 10 ** 12 + 1), ("num", True), ("num", False), ("num", "1"), ("num", None),
                      ("num", 1, 1), ("true", 1), ("nothing", ()), (), ("True",), ("self",), ("ref", 0), ("method", 0),
                      ("block", 0), "true", "nothing", 1, None, True, False, (True,), (None,), ("",), (("num", 1),),
                      ("Num", 1)):
            self.wrong_row(("push", value))

    def test_locals(self):
        for word in ("local", "set"):
            for number in (*COUNTS, 3, 4, 10 ** 20):
                self.wrong_row((word, number))
            self.right_anywhere((word, 2))
            self.wrong_code((0, 0, False, (ONE, (word, 0), *END)))
            self.wrong_code((0, 0, False, (*END, (word, 0))))
            self.right_code((1, 1, False, (*END, (word, 0))))

    def test_outer(self):
        for word in ("outer", "setouter"):
            for number in COUNTS:
                self.wrong_row((word, number, 0), (word, 1, number))
            self.wrong_row((word, 0, 0), (word, -1, 0))
            self.right_anywhere((word, 1, 0), (word, 2, 3), (word, 10 ** 20, 10 ** 20))

    def test_numbers_of_arguments(self):
        for number in COUNTS:
            self.wrong_row(("send", "a", number), ("resend", "a", number), ("call", number))
        self.right_anywhere(("send", "a", 10 ** 20), ("resend", "a", 10 ** 20), ("call", 10 ** 20))

    def test_names(self):
        for name in NAMES:
            self.wrong_row(("send", name, 0), ("resend", name, 0), ("assign", name), ("put", name, "var"), ("drop", name),
                           ("object", ((name, "var"),)), ("object", (("a", "var"), (name, "var"))))

    def test_kinds(self):
        for kind in ("", "Const", "fixed", "var parent", "let", "varparen", 0, None, True, (), ("const",), KINDS):
            self.wrong_row(("put", "a", kind), ("object", (("a", kind),)), ("object", (("a", "var"), ("b", kind))))

    def test_pairs(self):
        for pairs in (None, 0, True, "", "a", ("a",), ("a", "var"), ((),), (("a",),), (("a", "var", 0),), (("a", "var"), ()),
                      (None,), ("av",), (("a", "var"), "av"), (("var", "a"),)):
            self.wrong_row(("object", pairs))

    def test_signs(self):
        for sign in ("", "=", ":=", "/", "Div", "<<", ">", ">=", "!=", "==<", "<=<", 0, None, True, (), ("+",), SIGNS):
            self.wrong_row(("prim", sign))

    def test_indexes_of_codes(self):
        for word in ("method", "block"):
            for number in (*COUNTS, 2, 10 ** 20):
                rows = (*END, (word, number))
                self.wrong(0, (((0, 0, word == "block", rows), RIGHT), 0))
            for number in (0, 1):
                rows = (*END, (word, number))
                self.right((((0, 0, word == "block", rows), RIGHT), 0))
            rows = (*END, (word, 1))
            self.wrong(0, (((0, 0, word == "block", rows),), 0))

    def test_targets(self):
        for word in ("jump", "jumpno"):
            for target in (*COUNTS, 3, 10 ** 20):
                self.wrong_rows(*END, (word, target))
            self.wrong_rows(ONE, (word, 4), *END)
            for target in (0, 1, 2):
                self.right_rows(*END, (word, target))

    def test_a_deep_value(self):
        value = ()
        for _ in range(100):
            value = (value,)
        self.wrong_row(value, ("push", value), ("put", value, value), ("object", value), ("prim", value), ("call", value))
        self.wrong(-1, value)


class TestHeights(CheckCase):
    def both(self, found, *rows):
        """Checks that rows are right, and their heights."""
        self.right_rows(*rows)
        self.assertEqual(heights(rows), found)
        self.assertEqual({height.__class__ for height in heights(rows)}, {int})

    def test_each_kind_of_row(self):
        for row, effect in ROWS.items():
            if effect is not None:
                pops, pushes = effect
                self.both([*range(pops + 1), pushes, pushes + 1], *[ONE] * pops, row, *END)

    def test_pops_from_too_low_a_stack(self):
        for row, effect in ROWS.items():
            if effect is not None:
                pops, pushes = effect
                for fewer in range(pops):
                    self.wrong_rows(*[ONE] * fewer, row, *END)
                    self.wrong_rows(*[ONE] * fewer, row, ("jump", fewer + 1))
        self.wrong_rows(RETURN)
        self.wrong_rows(("home",))
        self.wrong_rows(("jumpno", 0))
        self.wrong_rows(("jumpno", 1), *END)
        self.wrong_rows(ONE, POP, RETURN)
        self.wrong_rows(ONE, ("send", "a", 10 ** 20), RETURN)

    def test_a_row_pushes_one_value_alone(self):
        self.wrong_rows(ONE, ("prim", "+"), RETURN)
        self.wrong_rows(ONE, ONE, ("prim", "+"), POP, RETURN)
        self.wrong_rows(ONE, ONE, ("send", "a", 1), ("print",), RETURN)

    def test_jumps(self):
        self.both([0, 1, 0, 1], ONE, ("jumpno", 2), NOTHING, RETURN)
        self.both([0, 0, 1], ("jump", 1), ONE, RETURN)
        self.both([0, 1, -1, 1], ONE, ("jump", 3), POP, RETURN)
        self.both([0, 1, 0, 1, 0, 1], ONE, ("jumpno", 4), ONE, POP, NOTHING, RETURN)

    def test_ways_of_one_height_to_one_row(self):
        self.both([0, 1, 0, 1, 0, 1], ONE, ("jumpno", 4), ONE, ("jump", 5), ONE, RETURN)
        self.both([0, 1, 0], ONE, ("jumpno", 0), ("jump", 0))
        self.both([0, 1, 2, 1], ONE, ONE, ("jumpno", 1), RETURN)

    def test_ways_of_different_heights_to_one_row(self):
        self.wrong_rows(ONE, ("jumpno", 3), ONE, NOTHING, RETURN)
        self.wrong_rows(ONE, ("jumpno", 4), ONE, ("jump", 4), NOTHING, RETURN)
        self.wrong_rows(ONE, ("jump", 0))
        self.wrong_rows(ONE, ONE, ("jumpno", 0), RETURN)
        self.wrong_rows(ONE, ONE, ("jumpno", 6), POP, ONE, ONE, RETURN)
        self.wrong_rows(ONE, ONE, ("jumpno", 4), POP, RETURN)

    def test_rings(self):
        self.both([0], ("jump", 0))
        self.both([0, 1, 0], ONE, POP, ("jump", 0))
        self.both([0, 1, 0, 0, 1], ONE, ("jumpno", 3), ("jump", 0), NOTHING, RETURN)
        self.wrong_rows(POP, ("jump", 0))

    def test_rows_that_cannot_be_reached(self):
        self.both([0, 1, -1, -1, -1], ONE, RETURN, POP, POP, RETURN)
        self.both([0, 1, -1, -1], ONE, ("home",), ("print",), ("prim", "+"))
        self.both([0, 1, -1, -1, 1], ONE, ("jump", 4), POP, POP, RETURN)
        self.both([0, 1, -1, -1], ONE, RETURN, ("jump", 0), ("jumpno", 1))

    def test_a_row_that_is_reached_by_a_jump_backwards_alone(self):
        self.both([0, 0, 1, 0], ("jump", 3), ONE, RETURN, ("jump", 1))
        self.wrong_rows(("jump", 3), POP, RETURN, ("jump", 1))

    def test_what_a_return_leaves_does_not_matter(self):
        self.both([0, 1, 2, 3], ONE, ONE, ONE, RETURN)
        self.both([0, 1, 2, 1, -1, 1], ONE, ONE, ("jumpno", 5), RETURN, POP, RETURN)

    def test_an_end_that_runs_out_of_the_rows(self):
        for row, effect in ROWS.items():
            if effect is not None:
                self.wrong_rows(*[ONE] * effect[0], row)
        self.wrong_rows(ONE, ("jumpno", 0))
        self.wrong_rows(ONE, ("jumpno", 4), NOTHING, RETURN, ONE)

    def test_an_end_that_cannot_be_reached(self):
        self.right_rows(*END, ONE)
        self.right_rows(*END, ("jumpno", 0))

    def test_an_end_that_is_a_jump(self):
        self.right_rows(("jump", 2), ("jump", 3), ("jump", 1), ONE, RETURN, ("jump", 0))
        self.right_rows(("jump", 3), ONE, RETURN, ("jump", 1))

    def test_many_rows(self):
        rows = (ONE, POP) * 5000 + END
        self.right_rows(*rows)
        self.assertEqual(heights(rows), [0, 1] * 5001)

    def test_the_list_is_a_new_one(self):
        found = heights(END)
        found.append(7)
        self.assertEqual(heights(END), [0, 1])

    def test_of_emitted_code(self):
        codes, _ = compile_text("main { if a { return 1; } else { print 1 + b.c(2, 3); } }")
        self.assertEqual(heights(codes[0][3]), [0, 1, 1, 0, 1, -1, 0, 1, 2, 2, 3, 4, 2, 1, 0, 1])


if __name__ == "__main__":
    unittest.main()
