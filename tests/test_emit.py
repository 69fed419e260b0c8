"""Points 2.3 to 2.7: the code of each form of tree."""

import unittest

from reaimed.check_code import check_code
from reaimed.emit import compile_text, emit
from reaimed.errors import BadCharacter, BadNumber, DoubleName, Unexpected, UnknownName
from reaimed.parser import parse
from reaimed.printing import print_program
from reaimed.tokens import tokens
from values import Chance, kinds_in

NOTHING = ("push", ("nothing",))
END = (NOTHING, ("return",))
SELF = ("self",)


def num(number):
    return ("push", ("num", number))


def own(name):
    """The rows of a name that is no local."""
    return (SELF, ("send", name, 0))


class EmitCase(unittest.TestCase):
    def codes(self, text, *codes):
        """Checks all codes of a text."""
        found, main = compile_text(text)
        self.assertEqual(main, 0)
        self.assertEqual(found, codes)
        self.assertIsNone(check_code((found, main)))

    def main(self, statements, *rows, places=0):
        """Checks the rows of main, which is the only code; they lack the end of the code."""
        self.codes("main { " + statements + " }", (0, places, False, rows + END))

    def expr(self, text, *rows):
        """Checks the rows of an expression."""
        self.main("print " + text + ";", *rows, ("print",))


class TestInterface(EmitCase):
    def test_functions_stand_in_their_file(self):
        self.assertEqual(emit.__module__, "reaimed.emit")
        self.assertEqual(compile_text.__module__, "reaimed.emit")

    def test_example_of_the_document(self):
        self.assertEqual(compile_text("main { print 1 + 2; }"), (
            ((0, 0, False, (
                ("push", ("num", 1)), ("push", ("num", 2)), ("prim", "+"), ("print",), ("push", ("nothing",)),
                ("return",))),), 0))

    def test_arguments_can_be_passed_by_name(self):
        self.assertEqual(emit(program=((), ())), (((0, 0, False, END),), 0))
        self.assertEqual(compile_text(text="main { }"), (((0, 0, False, END),), 0))

    def test_compile_text_emits_the_tree_of_the_text(self):
        text = "object o { a = fn(b) { b; }; } method m(a) { } main { let a = 1; print a; }"
        self.assertEqual(compile_text(text), emit(parse(text)))

    def test_the_argument_stays_as_it_was(self):
        text = "object o { a = fn(b) { b := 1; }; } main { let a = 1; if a { let a = 2; } }"
        tree = parse(text)
        self.assertEqual(emit(tree), emit(tree))
        self.assertEqual(tree, parse(text))

    def test_kinds_of_values(self):
        code = compile_text("object o { a = fn(b) { b; }; method c(d) { } } main { if true { 1; } }")
        self.assertEqual(kinds_in(code), {tuple, int, str, bool})
        for params, places, captured, rows in code[0]:
            self.assertEqual({params.__class__, places.__class__}, {int})
            self.assertIs(captured.__class__, bool)
            self.assertNotIn(bool, kinds_in(rows))


class TestErrors(unittest.TestCase):
    """The errors of compile_text: first those of tokens, then those of the grammar, then those of names."""

    def wrong(self, error, text):
        with self.assertRaises(error) as caught:
            compile_text(text)
        self.assertIs(caught.exception.__class__, error)

    def test_each(self):
        self.wrong(BadNumber, "main { 01; }")
        self.wrong(BadCharacter, "main { ! }")
        self.wrong(Unexpected, "main { 1 }")
        self.wrong(DoubleName, "main { let a = 1; let a = 2; }")
        self.wrong(UnknownName, "main { a := 2; }")

    def test_their_order(self):
        self.wrong(Unexpected, "main { a := 1; let b = 1; let b = 2; } main")
        self.wrong(BadNumber, "main { a := 1; 2 } 3x")
        self.wrong(UnknownName, "main { a := 1; let b = 1; let b = 2; }")


class TestExpressions(EmitCase):
    def test_numbers_and_words(self):
        self.expr("0", num(0))
        self.expr("1000000000000", num(10 ** 12))
        self.expr("true", ("push", ("true",)))
        self.expr("false", ("push", ("false",)))
        self.expr("nothing", NOTHING)
        self.expr("self", SELF)

    def test_names_that_are_no_locals(self):
        self.expr("a", SELF, ("send", "a", 0))

    def test_own_sends(self):
        self.expr("a()", SELF, ("send", "a", 0))
        self.expr("a(1)", SELF, num(1), ("send", "a", 1))
        self.expr("a(1, b, 2)", SELF, num(1), *own("b"), num(2), ("send", "a", 3))

    def test_an_own_send_does_not_ask_for_locals(self):
        self.main("let a = 1; a(); a(2);", num(1), ("set", 0), SELF, ("send", "a", 0), ("pop",), SELF, num(2),
                  ("send", "a", 1), ("pop",), places=1)

    def test_sends(self):
        self.expr("1.a()", num(1), ("send", "a", 0))
        self.expr("1.a(2, 3)", num(1), num(2), num(3), ("send", "a", 2))
        self.expr("a.b(c.d())", *own("a"), *own("c"), ("send", "d", 0), ("send", "b", 1))
        self.expr("self.a().b(1)", SELF, ("send", "a", 0), num(1), ("send", "b", 1))

    def test_resends(self):
        self.expr("resend a()", ("resend", "a", 0))
        self.expr("resend a(1, 2)", num(1), num(2), ("resend", "a", 2))

    def test_calls(self):
        self.expr("1.call()", num(1), ("call", 0))
        self.expr("1.call(2, 3).call(4)", num(1), num(2), num(3), ("call", 2), num(4), ("call", 1))

    def test_operators(self):
        for sign in ("==", "<", "<=", "+", "-", "*", "div", "mod"):
            self.expr(f"1 {sign} 2", num(1), num(2), ("prim", sign))
        self.expr("1 - 2 * 3", num(1), num(2), num(3), ("prim", "*"), ("prim", "-"))
        self.expr("1 - 2 - 3", num(1), num(2), ("prim", "-"), num(3), ("prim", "-"))
        self.expr("1 - (2 - 3)", num(1), num(2), num(3), ("prim", "-"), ("prim", "-"))

    def test_objects(self):
        self.expr("object { }", ("object", ()))
        self.expr("object { a = 1; var b = 2; parent c = 3; var parent d = 4; }", num(1), num(2), num(3), num(4),
                  ("object", (("a", "const"), ("b", "var"), ("c", "parent"), ("d", "varparent"))))
        self.expr("object { a = object { b = 1; }; c = 2; }", num(1), ("object", (("b", "const"),)), num(2),
                  ("object", (("a", "const"), ("c", "const"))))

    def test_method_slots(self):
        self.codes("main { object { a = 1; method m(b) { b; } c = 2; method n() { } }; }", (
            0, 0, False, (
                num(1), ("method", 1), num(2), ("method", 2),
                ("object", (("a", "const"), ("m", "method"), ("c", "const"), ("n", "method"))), ("pop",)) + END),
            (1, 1, False, (("local", 0), ("pop",)) + END), (0, 0, False, END))

    def test_blocks(self):
        self.codes("main { print fn() { }; }", (0, 0, True, (("block", 1), ("print",)) + END), (0, 0, False, END))


class TestStatements(EmitCase):
    def test_let_and_set(self):
        self.main("let a = 1; let b = a; a := b;", num(1), ("set", 0), ("local", 0), ("set", 1), ("local", 1), ("set", 0),
                  places=2)

    def test_a_let_does_not_see_itself(self):
        self.main("let a = a;", *own("a"), ("set", 0), places=1)
        self.main("let a = 1; if true { let a = a; print a; } print a;", num(1), ("set", 0), ("push", ("true",)),
                  ("jumpno", 8), ("local", 0), ("set", 1), ("local", 1), ("print",), ("local", 0), ("print",), places=2)

    def test_print_return_and_expression(self):
        self.main("print 1;", num(1), ("print",))
        self.main("return 1;", num(1), ("return",))
        self.main("1;", num(1), ("pop",))
        self.main("")

    def test_put_drop_and_assign(self):
        self.main("a.b := 1;", *own("a"), num(1), ("assign", "b"))
        self.main("drop a.b;", *own("a"), ("drop", "b"))
        for aim, kind in (("const", "const"), ("var", "var"), ("parent", "parent"), ("var parent", "varparent")):
            self.main(f"put a.b {aim} = 1;", *own("a"), num(1), ("put", "b", kind))

    def test_if(self):
        self.main("if 1 { }", num(1), ("jumpno", 2))
        self.main("if 1 { 2; }", num(1), ("jumpno", 4), num(2), ("pop",))
        self.main("if 1 { 2; } else { 3; }", num(1), ("jumpno", 5), num(2), ("pop",), ("jump", 7), num(3), ("pop",))

    def test_an_empty_else_has_a_jump(self):
        self.main("if 1 { } else { }", num(1), ("jumpno", 3), ("jump", 3))
        self.main("if 1 { 2; } else { }", num(1), ("jumpno", 5), num(2), ("pop",), ("jump", 5))

    def test_while(self):
        self.main("while 1 { }", num(1), ("jumpno", 3), ("jump", 0))
        self.main("5; while 1 + 2 { 3; }", num(5), ("pop",), num(1), num(2), ("prim", "+"), ("jumpno", 9), num(3),
                  ("pop",), ("jump", 2))

    def test_nested_ifs_and_whiles(self):
        self.main(
            "while 1 { if 2 { while 3 { } } else { if 4 { 5; } } } 6;",
            num(1), ("jumpno", 13),
            num(2), ("jumpno", 8),
            num(3), ("jumpno", 7), ("jump", 4),
            ("jump", 12),
            num(4), ("jumpno", 12), num(5), ("pop",),
            ("jump", 0), num(6), ("pop",))


class TestLocals(EmitCase):
    def test_parameters_come_first(self):
        self.codes("method m(a, b) { let c = b; let d = a; d := c; } main { }",
                   (0, 0, False, (SELF, ("method", 1), ("put", "m", "method")) + END),
                   (2, 4, False, (("local", 1), ("set", 2), ("local", 0), ("set", 3), ("local", 2), ("set", 3)) + END))

    def test_each_let_has_its_own_number(self):
        self.main(
            "if 1 { let a = 2; } else { let a = 3; let b = 4; } while 5 { let a = 6; } let a = 7; print a;",
            num(1), ("jumpno", 5), num(2), ("set", 0), ("jump", 9), num(3), ("set", 1), num(4), ("set", 2),
            num(5), ("jumpno", 14), num(6), ("set", 3), ("jump", 9), num(7), ("set", 4), ("local", 4), ("print",),
            places=5)

    def test_the_nearest_one_counts(self):
        self.main(
            "let a = 1; if 2 { print a; let a = 3; print a; a := 4; } print a;",
            num(1), ("set", 0), num(2), ("jumpno", 12), ("local", 0), ("print",), num(3), ("set", 1), ("local", 1),
            ("print",), num(4), ("set", 1), ("local", 0), ("print",), places=2)

    def test_behind_the_end_of_its_body(self):
        self.main("if 1 { let a = 2; } print a;", num(1), ("jumpno", 4), num(2), ("set", 0), *own("a"), ("print",),
                  places=1)

    def test_outer_and_setouter_of_several_depths(self):
        self.codes(
            "main { let a = 1; let b = 2;"
            " print fn(c) { let a = b; print fn() { print fn(d) { a := b; c := d; b := a; return c; }; }; }; }",
            (0, 2, True, (num(1), ("set", 0), num(2), ("set", 1), ("block", 1), ("print",)) + END),
            (1, 2, True, (("outer", 1, 1), ("set", 1), ("block", 2), ("print",)) + END),
            (0, 0, True, (("block", 3), ("print",)) + END),
            (1, 1, False, (
                ("outer", 3, 1), ("setouter", 2, 1), ("local", 0), ("setouter", 2, 0), ("outer", 2, 1),
                ("setouter", 3, 1), ("outer", 2, 0), ("home",)) + END))

    def test_a_block_sees_what_stands_before_it(self):
        self.codes("main { fn() { print a; }; let a = 1; fn() { print a; }; }",
                   (0, 1, True, (("block", 1), ("pop",), num(1), ("set", 0), ("block", 2), ("pop",)) + END),
                   (0, 0, False, (*own("a"), ("print",)) + END),
                   (0, 0, False, (("outer", 1, 0), ("print",)) + END))

    def test_an_inner_name_hides_an_outer_one(self):
        self.codes("main { let a = 1; fn(a) { print a; a := 2; }; }",
                   (0, 1, True, (num(1), ("set", 0), ("block", 1), ("pop",)) + END),
                   (1, 1, False, (("local", 0), ("print",), num(2), ("set", 0)) + END))

    def test_a_block_in_the_expression_of_a_let_does_not_see_it(self):
        self.codes("main { let a = fn() { print a; }; }", (0, 1, True, (("block", 1), ("set", 0)) + END),
                   (0, 0, False, (*own("a"), ("print",)) + END))

    def test_methods_of_objects_see_their_own_locals_only(self):
        self.codes("main { let a = 1; object { b = a; method m(c) { print a; fn() { print c; print a; }; } }; }",
                   (0, 1, False, (num(1), ("set", 0), ("local", 0), ("method", 1),
                                  ("object", (("b", "const"), ("m", "method"))), ("pop",)) + END),
                   (1, 1, True, (*own("a"), ("print",), ("block", 2), ("pop",)) + END),
                   (0, 0, False, (("outer", 1, 0), ("print",), *own("a"), ("print",)) + END))

    def test_slots_of_objects_see_the_locals_around(self):
        self.codes("main { let a = 1; fn(b) { print object { var c = a; d = object { parent e = b; }; }; }; }",
                   (0, 1, True, (num(1), ("set", 0), ("block", 1), ("pop",)) + END),
                   (1, 1, False, (
                       ("outer", 1, 0), ("local", 0), ("object", (("e", "parent"),)),
                       ("object", (("c", "var"), ("d", "const"))), ("print",)) + END))


class TestEnds(EmitCase):
    def block(self, body, places, *rows):
        """Checks all rows of a block."""
        self.codes("main { fn() { " + body + " }; }", (0, 0, True, (("block", 1), ("pop",)) + END),
                   (0, places, False, rows))

    def test_a_block_with_an_expression_statement_at_the_end(self):
        self.block("1;", 0, num(1), ("return",))
        self.block("1; 2;", 0, num(1), ("pop",), num(2), ("return",))
        self.block("let a = 1; a;", 1, num(1), ("set", 0), ("local", 0), ("return",))
        self.block("if 1 { } 2;", 0, num(1), ("jumpno", 2), num(2), ("return",))

    def test_a_block_with_another_statement_at_the_end(self):
        self.block("", 0, *END)
        self.block("1; let a = 2;", 1, num(1), ("pop",), num(2), ("set", 0), *END)
        self.block("let a = 1; a := 2;", 1, num(1), ("set", 0), num(2), ("set", 0), *END)
        self.block("print 1;", 0, num(1), ("print",), *END)
        self.block("return 1;", 0, num(1), ("home",), *END)
        self.block("if 1 { 2; }", 0, num(1), ("jumpno", 4), num(2), ("pop",), *END)
        self.block("while 1 { 2; }", 0, num(1), ("jumpno", 5), num(2), ("pop",), ("jump", 0), *END)
        self.block("1.a := 2;", 0, num(1), num(2), ("assign", "a"), *END)
        self.block("put 1.a var = 2;", 0, num(1), num(2), ("put", "a", "var"), *END)
        self.block("drop 1.a;", 0, num(1), ("drop", "a"), *END)

    def test_methods_and_main_have_no_exception(self):
        self.codes("method m() { 1; } main { 2; }",
                   (0, 0, False, (SELF, ("method", 1), ("put", "m", "method"), num(2), ("pop",)) + END),
                   (0, 0, False, (num(1), ("pop",)) + END))

    def test_returns(self):
        self.codes("method m() { return 1; fn() { return 2; fn() { return 3; }; }; } main { return 4; }",
                   (0, 0, False, (SELF, ("method", 1), ("put", "m", "method"), num(4), ("return",)) + END),
                   (0, 0, True, (num(1), ("return",), ("block", 2), ("pop",)) + END),
                   (0, 0, True, (num(2), ("home",), ("block", 3), ("return",))),
                   (0, 0, False, (num(3), ("home",)) + END))

    def test_a_method_in_a_block_returns(self):
        self.codes("main { fn() { print object { method m() { return 1; } }; }; }",
                   (0, 0, True, (("block", 1), ("pop",)) + END),
                   (0, 0, False, (("method", 2), ("object", (("m", "method"),)), ("print",)) + END),
                   (0, 0, False, (num(1), ("return",)) + END))


class TestItems(EmitCase):
    def test_in_order_at_the_beginning_of_main(self):
        self.codes("object o { a = 1; var b = o; } method m(c) { } object lobby { } main { print 2; }",
                   (0, 0, False, (
                       SELF, num(1), *own("o"), ("object", (("a", "const"), ("b", "var"))), ("put", "o", "const"),
                       SELF, ("method", 1), ("put", "m", "method"),
                       SELF, ("object", ()), ("put", "lobby", "const"),
                       num(2), ("print",)) + END),
                   (1, 1, False, END))

    def test_targets_behind_items(self):
        self.codes("object o { } main { while 1 { } if 2 { } else { } }",
                   (0, 0, False, (
                       SELF, ("object", ()), ("put", "o", "const"), num(1), ("jumpno", 6), ("jump", 3), num(2),
                       ("jumpno", 9), ("jump", 9)) + END))

    def test_blocks_in_items_belong_to_main(self):
        self.codes("object o { a = fn() { return 1; }; } main { let b = 2; }",
                   (0, 1, True, (
                       SELF, ("block", 1), ("object", (("a", "const"),)), ("put", "o", "const"), num(2),
                       ("set", 0)) + END),
                   (0, 0, False, (num(1), ("home",)) + END))


class TestNumbersOfCodes(EmitCase):
    def test_in_the_order_in_which_their_texts_begin(self):
        found, _ = compile_text(
            "method m1(a) { fn(a, b) { fn(a, b, c) { }; }; fn(a, b, c, d) { }; }"
            " object o { x = fn(a, b, c, d, e) { }; method m6(a, b, c, d, e, f) { }"
            " y = object { method m7(a, b, c, d, e, f, g) { print fn(a, b, c, d, e, f, g, h) { }; } }; }"
            " main { fn(a, b, c, d, e, f, g, h, i) { }; }")
        self.assertEqual([code[0] for code in found], list(range(10)))
        self.assertEqual([code[2] for code in found], [True, True, True] + [False] * 4 + [True, False, False])

    def test_in_all_places_of_expressions_and_statements(self):
        one, two = "fn(a) { }", "fn(a, b) { }"
        for statement in ("put {}.z var = {};", "{}.z := {};", "if {} {{ print {}; }}", "while {} {{ print {}; }}",
                          "if 1 {{ print {}; }} else {{ print {}; }}", "print {} == {};", "print {}.z({});",
                          "print {}.call({});", "print z({}, {});", "print resend z({}, {});", "print z.z({}, {});",
                          "print z.call({}, {});", "print object {{ y = {}; z = {}; }};", "print 1 + {} * {};",
                          "print {}; print {};", "let y = {}; y := {};", "drop {}.z({}).y;", "return {} - {};"):
            found, _ = compile_text("main { " + statement.format(one, two) + " }")
            self.assertEqual([code[0] for code in found], [0, 1, 2], statement)
            blocks = [row for row in found[0][3] if row[0] == "block"]
            self.assertEqual(blocks, [("block", 1), ("block", 2)], statement)

    def test_captured_counts_the_own_rows_alone(self):
        found, _ = compile_text(
            "method m() { print object { method n() { fn() { }; } }; } main { fn() { print object { method k() { } }; }; }")
        self.assertEqual([code[2] for code in found], [True, False, True, False, False, False])


class TestByChance(unittest.TestCase):
    def test_the_code_is_right(self):
        for seed in range(300):
            code = emit(Chance(seed).program(5))
            self.assertIsNone(check_code(code))

    def test_parameters_of_codes_in_the_order_of_the_text(self):
        for seed in range(300):
            program = Chance(seed).program(5)
            words = [token[1] for token in tokens(print_program(program))]
            params = [0]
            for at, word in enumerate(words):
                if word in ("method", "fn"):
                    start = words.index("(", at)
                    inside = words[start + 1:words.index(")", start)]
                    params.append(len(inside) - inside.count(","))
            self.assertEqual([code[0] for code in emit(program)[0]], params)

    def test_each_code_is_pushed_once_by_a_row_of_an_earlier_one(self):
        for seed in range(300):
            codes, _ = emit(Chance(seed).program(5))
            pushed = {}
            for number, code in enumerate(codes):
                for row in code[3]:
                    if row[0] in ("method", "block"):
                        self.assertNotIn(row[1], pushed)
                        self.assertGreater(row[1], number)
                        pushed[row[1]] = row[0]
            self.assertEqual(sorted(pushed), list(range(1, len(codes))))


class TestNesting(EmitCase):
    def test_deep_trees(self):
        for depth in (1, 40, 60):
            self.expr("1 - (" * depth + "1" + ")" * depth, *[num(1)] * (depth + 1), *[("prim", "-")] * depth)
            found, _ = compile_text("main { let a = 1; " + "fn() { " * depth + "a;" + " };" * depth + " }")
            self.assertEqual(len(found), depth + 1)
            self.assertEqual(found[-1], (0, 0, False, (("outer", depth, 0), ("return",))))
            found, _ = compile_text("main { " + "if 1 { while 2 { " * depth + "} }" * depth + " }")
            self.assertEqual(len(found[0][3]), 5 * depth + 2)


if __name__ == "__main__":
    unittest.main()
