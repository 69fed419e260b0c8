"""Points 1.9 and 1.10: the one form of each tree, and where it has parentheses."""

import unittest

from reaimed import printing
from reaimed.parser import parse, parse_expr
from reaimed.printing import print_expr, print_program, print_statement
from reaimed.tokens import tokens
from values import Chance

ONE = ("num", 1)
TWO = ("num", 2)
A = ("name", "a")
B = ("name", "b")
C = ("name", "c")
LEVELS = {"==": 1, "<": 1, "<=": 1, "+": 2, "-": 2, "*": 3, "div": 3, "mod": 3}
LEFT_NEEDS = {1: 2, 2: 2, 3: 3}
RIGHT_NEEDS = {1: 2, 2: 3, 3: 4}
ATOMS = ("1", "a", "true", "false", "nothing", "self", "a()", "resend a()", "a.b()", "a.call()", "object { }",
         "fn() { }")


def spaced(text):
    """The tokens of a text with spaces between them as point 1.9 says."""
    out = ""
    before = None
    for kind, word, _, _ in tokens(text)[:-1]:
        follows_name = before is not None and (before[0] == "name" or before[1] in ("call", "fn"))
        tight = (
            before is None or word in (";", ",", ".", ")") or before[1] in (".", "(")
            or (word == "(" and follows_name))
        out += word if tight else " " + word
        before = (kind, word)
    return out


def without_parentheses(text):
    """Texts that each lack one pair of parentheses which encloses an expression."""
    opened = []
    for at, char in enumerate(text):
        if char == "(":
            opened.append(at)
        elif char == ")":
            start = opened.pop()
            # Behind a name, call or fn stand arguments or parameters.
            if start == 0 or text[start - 1] in " (":
                yield text[:start] + text[start + 1:at] + text[at + 1:]


def parsed(read, text):
    """The tree of a text, or None if it has none."""
    try:
        return read(text)
    except ValueError:
        return None


class PrintCase(unittest.TestCase):
    def expression(self, text):
        """Checks that the tree of a text is written as this text."""
        tree = parse_expr(text)
        self.assertEqual(print_expr(tree), text)
        self.assertIs(print_expr(tree).__class__, str)
        self.statement("print " + text + ";")

    def statement(self, text):
        tree = parse("main { " + text + " }")[1][0]
        self.assertEqual(print_statement(tree), text)
        self.program("main { " + text + " }\n")

    def slot(self, text):
        self.expression("object { " + text + " }")
        self.program("object o { " + text + " }\nmain { }\n")

    def program(self, text):
        self.assertEqual(print_program(parse(text)), text)


class TestInterface(unittest.TestCase):
    def test_functions_stand_in_their_file(self):
        for function in (print_program, print_statement, print_expr):
            self.assertEqual(function.__module__, "reaimed.printing")

    def test_arguments_can_be_passed_by_name(self):
        self.assertEqual(printing.print_program(program=((), ())), "main { }\n")
        self.assertEqual(printing.print_statement(statement=("print", ONE)), "print 1;")
        self.assertEqual(printing.print_expr(expr=ONE), "1")


class TestExpressions(PrintCase):
    def test_words_names_and_numbers(self):
        for text in ("0", "1", "1000000000000", "true", "false", "nothing", "self", "a", "long_Name_9"):
            self.expression(text)

    def test_own_sends_and_resends(self):
        for text in ("a()", "a(1)", "a(1, b, true)", "resend a()", "resend a(1)", "resend a(1, b, self)"):
            self.expression(text)

    def test_sends_and_calls(self):
        for text in ("a.b()", "a.b(1)", "a.b(1, 2)", "a.call()", "a.call(1)", "a.call(1, c)", "1.b()", "self.b().c(1)",
                     "a.call().call()", "resend a().b()", "object { }.b()", "fn() { }.call()"):
            self.expression(text)

    def test_arguments_need_no_parentheses(self):
        for text in ("a(1 + 2, b == c)", "resend a(1 < 2)", "a.b(1 * 2, c(1 - 2))", "a.call(b <= c)"):
            self.expression(text)

    def test_blocks(self):
        for text in ("fn() { }", "fn(a) { }", "fn(a, b, c) { }", "fn() { 1; }", "fn(a) { let b = a; return b; }",
                     "fn() { fn() { }; }"):
            self.expression(text)

    def test_objects(self):
        for text in ("object { }", "object { a = 1; }", "object { a = 1; var b = 2; }", "object { a = object { }; }"):
            self.expression(text)

    def test_each_operator(self):
        for sign in LEVELS:
            self.expression(f"a {sign} b")


class TestSlots(PrintCase):
    def test_a_const_has_no_aim(self):
        self.assertEqual(print_expr(parse_expr("object { const a = 1; }")), "object { a = 1; }")
        self.slot("a = 1;")

    def test_other_kinds(self):
        for text in ("var a = 1;", "parent a = b;", "var parent a = b;", "method a() { }", "method a(b) { b; }",
                     "method a(b, c) { print b; return c; }"):
            self.slot(text)

    def test_several(self):
        self.slot("a = 1; var b = 2; parent c = a; method d() { } var parent e = b; f = 1 + 2 == 3;")

    def test_an_object_without_slots_in_a_slot(self):
        self.slot("a = object { };")


class TestStatements(PrintCase):
    def test_each_form(self):
        for text in ("let a = 1;", "a := 1;", "print 1;", "return 1;", "1;", "a;", "a.b();", "a.b := 1;", "drop a.b;",
                     "if a { }", "if a { } else { }", "if a { 1; 2; }", "if a { 1; } else { 2; 3; }", "while a { }",
                     "while a { 1; 2; }", "if a { if b { } else { } }", "if a { } else { if b { } }",
                     "while a { while b { 1; } }"):
            self.statement(text)

    def test_a_put_of_each_aim(self):
        for aim in ("const", "var", "parent", "var parent"):
            self.statement(f"put a.b {aim} = 1;")

    def test_expressions_need_no_parentheses(self):
        for text in ("let a = 1 == 2;", "a := 1 < 2;", "print 1 + 2;", "return 1 * 2;", "1 <= 2;", "1 + 2;",
                     "a.b := 1 == 2;", "put a.b var = 1 == 2;", "if a == b { }", "while a < b { }"):
            self.statement(text)

    def test_no_newline(self):
        tree = parse("main { if a { let b = 1; print b; } else { while a { } } }")[1][0]
        self.assertEqual(print_statement(tree), "if a { let b = 1; print b; } else { while a { } }")

    def test_parentheses_behind_words_have_a_space_before(self):
        for text in ("print (a + b) * c;", "return (a + b) * c;", "if (a + b) * c { }", "while (a + b) * c { }",
                     "let a = (a + b) * c;", "a := (a + b) * c;", "put (a + b).c var = 1;", "drop (a + b).c;",
                     "(a + b) * c;", "(a + b).c := (a + b) * c;", "print a div (b + c);", "print a mod (b + c);"):
            self.statement(text)


class TestPrograms(PrintCase):
    def test_a_row_for_each_item_and_for_main(self):
        self.program("main { }\n")
        self.program("main { print 1; print 2; }\n")
        self.program("object o { }\nmain { }\n")
        self.program("method m() { }\nmain { }\n")
        self.program("method m(a, b) { print a; }\nobject o { a = 1; method n() { } }\nobject p { }\nmain { m(1, 2); }\n")

    def test_spaces_rows_and_comments_of_the_text_are_lost(self):
        text = "object  o{const a=1 ;}# x\nmethod m( a,b ){ }main{\n\n((a)).b ( 1 ,2 ) ;if a{}else{}}"
        self.assertEqual(print_program(parse(text)), (
            "object o { a = 1; }\nmethod m(a, b) { }\nmain { a.b(1, 2); if a { } else { } }\n"))


class TestParentheses(PrintCase):
    def test_operators_on_both_sides_of_operators(self):
        for sign, level in LEVELS.items():
            for inner, inner_level in LEVELS.items():
                tree = ("op", inner, A, B)
                bare = f"a {inner} b"
                left = f"({bare})" if inner_level < LEFT_NEEDS[level] else bare
                right = f"({bare})" if inner_level < RIGHT_NEEDS[level] else bare
                self.assertEqual(print_expr(("op", sign, tree, C)), f"{left} {sign} c")
                self.assertEqual(print_expr(("op", sign, C, tree)), f"c {sign} {right}")
                self.assertEqual(print_expr(("op", sign, tree, tree)), f"{left} {sign} {right}")

    def test_some_texts(self):
        for text in ("(a == b) == c", "a == (b == c)", "(a < b) == (c <= a)", "a + b - c", "a - (b + c)", "a * b div c",
                     "a div (b * c)", "(a + b) * c", "a * b + c", "a + b * c", "(a == b) + c", "a + (b == c)",
                     "(a == b) * c", "a + b == c - a", "((a + b) * c).b()", "a mod (b - c) * a"):
            self.expression(text)

    def test_all_others_have_the_highest_level(self):
        for text in ATOMS:
            for sign in LEVELS:
                self.expression(f"{text} {sign} {text}")
            self.expression(text + ".b()")
            self.expression(text + ".call(1)")
            for statement in (f"put {text}.b var = 1;", f"drop {text}.b;", f"{text}.b := 1;"):
                self.statement(statement)

    def test_operators_as_receivers(self):
        for sign in LEVELS:
            tree = ("op", sign, A, B)
            text = f"(a {sign} b)"
            self.assertEqual(print_expr(("send", tree, "c", (tree,))), f"{text}.c(a {sign} b)")
            self.assertEqual(print_expr(("call", tree, (tree,))), f"{text}.call(a {sign} b)")
            self.assertEqual(print_statement(("put", tree, "c", "const", tree)), f"put {text}.c const = a {sign} b;")
            self.assertEqual(print_statement(("drop", tree, "c")), f"drop {text}.c;")
            self.assertEqual(print_statement(("assign", tree, "c", tree)), f"{text}.c := a {sign} b;")

    def test_receivers_within_receivers(self):
        for text in ("(a + b).c().d()", "((a + b).c() + 1).d()", "(a.b() + c).call().d(1)"):
            self.expression(text)


class TestByChance(unittest.TestCase):
    def test_parsing_gives_the_tree_again(self):
        for seed in range(300):
            program = Chance(seed).program(5)
            self.assertEqual(parse(print_program(program)), program)

    def test_spaces(self):
        for seed in range(300):
            program = Chance(seed).program(5)
            rows = print_program(program).split("\n")
            self.assertEqual(rows.pop(), "")
            self.assertEqual(len(rows), len(program[0]) + 1)
            for row in rows:
                self.assertEqual(row, spaced(row))

    def test_parts_are_written_alike(self):
        for seed in range(300):
            _, body = Chance(seed).program(5)
            text = "".join(print_statement(statement) + " " for statement in body)
            self.assertEqual(print_program(((), body)), "main { " + text + "}\n")

    def test_no_parentheses_can_be_left_out(self):
        for seed in range(300):
            tree = Chance(seed).expr(4)
            for text in without_parentheses(print_expr(tree)):
                self.assertNotEqual(parsed(parse_expr, text), tree, text)


class TestNesting(PrintCase):
    DEPTHS = (1, 2, 40, 60)

    def test_operators(self):
        for depth in self.DEPTHS:
            self.expression("a" + " - 1" * depth)
            self.expression("1 - (" * depth + "a - 1" + ")" * depth)

    def test_dots(self):
        for depth in self.DEPTHS:
            self.expression("a" + ".b().call(1)" * depth)

    def test_bodies(self):
        for depth in self.DEPTHS:
            self.statement("if a { } else { while b { " * depth + "1; " + "} } " * (depth - 1) + "} }")

    def test_blocks_and_objects(self):
        for depth in self.DEPTHS:
            self.expression("fn() { " * depth + "a" + "; }" * depth)
            self.expression("object { var a = " * depth + "a" + "; }" * depth)


if __name__ == "__main__":
    unittest.main()
