"""Points 1.5 to 1.7: the grammar and the trees."""

import unittest

from reaimed.parser import parse, parse_expr

ONE = ("num", 1)
TWO = ("num", 2)
THREE = ("num", 3)
FOUR = ("num", 4)
A = ("name", "a")
B = ("name", "b")
C = ("name", "c")
D = ("name", "d")


def statements(text):
    """The trees of statements, in the body of main."""
    items, body = parse("main { " + text + " }")
    assert items == ()
    return body


def statement(text):
    """The tree of the one statement of a text."""
    body = statements(text)
    assert len(body) == 1
    return body[0]


def slots(text):
    """The trees of the slots of an object."""
    tree = parse_expr("object { " + text + " }")
    assert tree[0] == "object" and len(tree) == 2
    return tree[1]


def op(sign, first, second):
    return ("op", sign, first, second)


def send(receiver, name, *args):
    return ("send", receiver, name, args)


class TestInterface(unittest.TestCase):
    def test_functions_stand_in_their_file(self):
        self.assertEqual(parse.__module__, "reaimed.parser")
        self.assertEqual(parse_expr.__module__, "reaimed.parser")

    def test_example_of_the_document(self):
        self.assertEqual(parse_expr("q.sum() + 1"), ("op", "+", ("send", ("name", "q"), "sum", ()), ("num", 1)))

    def test_arguments_can_be_passed_by_name(self):
        self.assertEqual(parse(text="main { }"), ((), ()))
        self.assertEqual(parse_expr(text="1"), ONE)


class TestKindsOfValues(unittest.TestCase):
    def check(self, tree):
        if tree.__class__ is tuple:
            for part in tree:
                self.check(part)
        else:
            self.assertIn(tree.__class__, (str, int, None.__class__))

    def test_trees_are_tuples_strings_integers_and_none(self):
        self.check(parse(
            "object o { x = 1; method m(a, b) { } } method k() { } main { let f = fn(a) { a; };"
            " if true { } if a < 2 { f.call(1, 2); } else { } while self.x(1) == 0 { put o.x var = object { }; } }"))

    def test_numbers_are_integers(self):
        for text, value in (("0", 0), ("7", 7), ("1000000000000", 10 ** 12)):
            tree = parse_expr(text)
            self.assertEqual(tree, ("num", value))
            self.assertIs(tree[1].__class__, int)

    def test_parsing_twice_gives_equal_trees(self):
        text = "object o { x = 1; } main { o.x := 2; }"
        self.assertEqual(parse(text), parse(text))


class TestPrograms(unittest.TestCase):
    def test_the_least_program(self):
        self.assertEqual(parse("main{}"), ((), ()))
        self.assertEqual(parse("\n main # x\n { # y\n }\n# z"), ((), ()))

    def test_items_in_order(self):
        self.assertEqual(parse("method m() { } object o { } method n(a) { } object o { } main { 1; }"), (
            (("method", "m", (), ()), ("object", "o", ()), ("method", "n", ("a",), ()), ("object", "o", ())),
            (("expr", ONE),)))

    def test_item_object(self):
        self.assertEqual(parse("object o { x = 1; var y = 2; } main { }")[0], (
            ("object", "o", (("const", "x", ONE), ("var", "y", TWO))),))

    def test_item_method(self):
        self.assertEqual(parse("method m(a, b, a) { print a; return 1; } main { }")[0], (
            ("method", "m", ("a", "b", "a"), (("print", A), ("return", ONE))),))

    def test_body_of_main_in_order(self):
        self.assertEqual(parse("main { 1; 2; 3; }")[1], (("expr", ONE), ("expr", TWO), ("expr", THREE)))

    def test_an_item_may_be_named_lobby(self):
        self.assertEqual(parse("object lobby { } main { }")[0], (("object", "lobby", ()),))


class TestSlots(unittest.TestCase):
    def test_no_slots(self):
        self.assertEqual(slots(""), ())

    def test_each_aim(self):
        self.assertEqual(slots("const x = 1;"), (("const", "x", ONE),))
        self.assertEqual(slots("x = 1;"), (("const", "x", ONE),))
        self.assertEqual(slots("var x = 1;"), (("var", "x", ONE),))
        self.assertEqual(slots("parent x = a;"), (("parent", "x", A),))
        self.assertEqual(slots("var parent x = a;"), (("varparent", "x", A),))

    def test_method(self):
        self.assertEqual(slots("method m() { }"), (("method", "m", (), ()),))
        self.assertEqual(slots("method m(a, b) { 1; }"), (("method", "m", ("a", "b"), (("expr", ONE),)),))

    def test_several_in_order(self):
        self.assertEqual(slots("var x = 1; method m() { } parent p = a; x = 2; var parent q = b;"), (
            ("var", "x", ONE), ("method", "m", (), ()), ("parent", "p", A), ("const", "x", TWO),
            ("varparent", "q", B)))

    def test_values_are_expressions(self):
        self.assertEqual(slots("x = 1 + 2 == 3; y = object { z = a; };"), (
            ("const", "x", op("==", op("+", ONE, TWO), THREE)), ("const", "y", ("object", (("const", "z", A),)))))


class TestStatements(unittest.TestCase):
    def test_let(self):
        self.assertEqual(statement("let x = 1 + 2;"), ("let", "x", op("+", ONE, TWO)))

    def test_set(self):
        self.assertEqual(statement("x := 1 < 2;"), ("set", "x", op("<", ONE, TWO)))

    def test_print_and_return(self):
        self.assertEqual(statement("print 1 + 2;"), ("print", op("+", ONE, TWO)))
        self.assertEqual(statement("return 1 + 2;"), ("return", op("+", ONE, TWO)))

    def test_if(self):
        self.assertEqual(statement("if a { }"), ("if", A, (), None))
        self.assertEqual(statement("if a { 1; }"), ("if", A, (("expr", ONE),), None))
        self.assertEqual(statement("if a { } else { }"), ("if", A, (), ()))
        self.assertEqual(statement("if a < 1 { 1; 2; } else { 3; }"), (
            "if", op("<", A, ONE), (("expr", ONE), ("expr", TWO)), (("expr", THREE),)))

    def test_else_belongs_to_the_if_before_it(self):
        self.assertEqual(statement("if a { if b { } } else { 1; }"), (
            "if", A, (("if", B, (), None),), (("expr", ONE),)))
        self.assertEqual(statement("if a { if b { } else { 1; } }"), (
            "if", A, (("if", B, (), (("expr", ONE),)),), None))
        self.assertEqual(statement("if a { } else { if b { } }"), ("if", A, (), (("if", B, (), None),)))

    def test_while(self):
        self.assertEqual(statement("while a { }"), ("while", A, ()))
        self.assertEqual(statement("while a <= 1 { 1; 2; }"), (
            "while", op("<=", A, ONE), (("expr", ONE), ("expr", TWO))))

    def test_conditions_may_end_with_braces(self):
        self.assertEqual(statement("if object { } { }"), ("if", ("object", ()), (), None))
        self.assertEqual(statement("while fn() { } { 1; }"), ("while", ("fn", (), ()), (("expr", ONE),)))

    def test_put_with_each_aim(self):
        self.assertEqual(statement("put a.x const = 1;"), ("put", A, "x", "const", ONE))
        self.assertEqual(statement("put a.x var = 1;"), ("put", A, "x", "var", ONE))
        self.assertEqual(statement("put a.x parent = b;"), ("put", A, "x", "parent", B))
        self.assertEqual(statement("put a.x var parent = b;"), ("put", A, "x", "varparent", B))

    def test_drop(self):
        self.assertEqual(statement("drop a.x;"), ("drop", A, "x"))

    def test_assign(self):
        self.assertEqual(statement("a.x := 1 + 2;"), ("assign", A, "x", op("+", ONE, TWO)))

    def test_expression(self):
        self.assertEqual(statement("a;"), ("expr", A))
        self.assertEqual(statement("1 + 2 * 3 == a;"), (
            "expr", op("==", op("+", ONE, op("*", TWO, THREE)), A)))
        self.assertEqual(statement("(1 + 2) * 3;"), ("expr", op("*", op("+", ONE, TWO), THREE)))
        self.assertEqual(statement("1 * 2 < 3;"), ("expr", op("<", op("*", ONE, TWO), THREE)))

    def test_expressions_that_begin_like_assignments(self):
        self.assertEqual(statement("x == 1;"), ("expr", op("==", ("name", "x"), ONE)))
        self.assertEqual(statement("a.b() == 1;"), ("expr", op("==", send(A, "b"), ONE)))


class TestPrimaries(unittest.TestCase):
    def test_words_that_stand_for_themselves(self):
        for word in ("true", "false", "nothing", "self"):
            with self.subTest(word):
                self.assertEqual(parse_expr(word), (word,))

    def test_names(self):
        self.assertEqual(parse_expr("a"), A)
        self.assertEqual(parse_expr("calls"), ("name", "calls"))

    def test_own_sends(self):
        self.assertEqual(parse_expr("m()"), ("own", "m", ()))
        self.assertEqual(parse_expr("m(1)"), ("own", "m", (ONE,)))
        self.assertEqual(parse_expr("m (1, a, 1 + 2)"), ("own", "m", (ONE, A, op("+", ONE, TWO))))

    def test_resends(self):
        self.assertEqual(parse_expr("resend m()"), ("resend", "m", ()))
        self.assertEqual(parse_expr("resend m(1, a)"), ("resend", "m", (ONE, A)))

    def test_objects(self):
        self.assertEqual(parse_expr("object { }"), ("object", ()))
        self.assertEqual(parse_expr("object { x = 1; }"), ("object", (("const", "x", ONE),)))

    def test_blocks(self):
        self.assertEqual(parse_expr("fn() { }"), ("fn", (), ()))
        self.assertEqual(parse_expr("fn (a) { }"), ("fn", ("a",), ()))
        self.assertEqual(parse_expr("fn(a, b) { a; return b; }"), ("fn", ("a", "b"), (("expr", A), ("return", B))))

    def test_parentheses_leave_no_trace(self):
        self.assertEqual(parse_expr("(1)"), ONE)
        self.assertEqual(parse_expr("(((a)))"), A)
        self.assertEqual(parse_expr("(1 + 2)"), op("+", ONE, TWO))
        self.assertEqual(parse_expr("m((1), (a))"), ("own", "m", (ONE, A)))
        self.assertEqual(parse_expr("(a).b((1))"), send(A, "b", ONE))


class TestOperators(unittest.TestCase):
    def test_each_operator(self):
        for sign in ("==", "<", "<=", "+", "-", "*", "div", "mod"):
            with self.subTest(sign):
                self.assertEqual(parse_expr("a " + sign + " b"), op(sign, A, B))

    def test_rows_of_one_level_bind_to_the_left(self):
        for signs in (("+", "-"), ("*", "div", "mod")):
            for one in signs:
                for other in signs:
                    for third in signs:
                        with self.subTest(one + other + third):
                            self.assertEqual(
                                parse_expr(f"a {one} b {other} c {third} d"),
                                op(third, op(other, op(one, A, B), C), D))

    def test_products_bind_more_than_sums(self):
        for plus in ("+", "-"):
            for times in ("*", "div", "mod"):
                self.assertEqual(parse_expr(f"a {plus} b {times} c"), op(plus, A, op(times, B, C)))
                self.assertEqual(parse_expr(f"a {times} b {plus} c"), op(plus, op(times, A, B), C))
                self.assertEqual(
                    parse_expr(f"a {times} b {plus} c {times} d"), op(plus, op(times, A, B), op(times, C, D)))
                self.assertEqual(
                    parse_expr(f"a {plus} b {times} c {plus} d"), op(plus, op(plus, A, op(times, B, C)), D))

    def test_comparisons_bind_least(self):
        for sign in ("==", "<", "<="):
            for inner in ("+", "-", "*", "div", "mod"):
                self.assertEqual(parse_expr(f"a {sign} b {inner} c"), op(sign, A, op(inner, B, C)))
                self.assertEqual(parse_expr(f"a {inner} b {sign} c"), op(sign, op(inner, A, B), C))
                self.assertEqual(
                    parse_expr(f"a {inner} b {sign} c {inner} d"), op(sign, op(inner, A, B), op(inner, C, D)))

    def test_operators_of_all_levels_in_a_row(self):
        self.assertEqual(
            parse_expr("1 + 2 * 3 - 4 div a <= b mod c - d * 1 + 2"),
            op("<=", op("-", op("+", ONE, op("*", TWO, THREE)), op("div", FOUR, A)),
               op("+", op("-", op("mod", B, C), op("*", D, ONE)), TWO)))

    def test_parentheses_bind(self):
        self.assertEqual(parse_expr("a - (b - c)"), op("-", A, op("-", B, C)))
        self.assertEqual(parse_expr("a * (b + c)"), op("*", A, op("+", B, C)))
        self.assertEqual(parse_expr("(a == b) == (c < d)"), op("==", op("==", A, B), op("<", C, D)))
        self.assertEqual(parse_expr("(a < b) + 1"), op("+", op("<", A, B), ONE))

    def test_operands_with_dots(self):
        self.assertEqual(parse_expr("a.b() * c.d(1)"), op("*", send(A, "b"), send(C, "d", ONE)))
        self.assertEqual(parse_expr("1 - a.b().c()"), op("-", ONE, send(send(A, "b"), "c")))

    def test_braces_end_no_row(self):
        self.assertEqual(parse_expr("fn() { } + object { }"), op("+", ("fn", (), ()), ("object", ())))


class TestDots(unittest.TestCase):
    def test_sends(self):
        self.assertEqual(parse_expr("a.b()"), send(A, "b"))
        self.assertEqual(parse_expr("a . b (1, 2 + 3)"), send(A, "b", ONE, op("+", TWO, THREE)))

    def test_calls(self):
        self.assertEqual(parse_expr("a.call()"), ("call", A, ()))
        self.assertEqual(parse_expr("a.call(1, b)"), ("call", A, (ONE, B)))

    def test_rows_bind_to_the_left(self):
        self.assertEqual(
            parse_expr("a.b().call(1).c(2).call()"),
            ("call", send(("call", send(A, "b"), (ONE,)), "c", TWO), ()))

    def test_behind_each_primary(self):
        primaries = {
            "1": ONE, "true": ("true",), "false": ("false",), "nothing": ("nothing",), "self": ("self",), "a": A,
            "m(1)": ("own", "m", (ONE,)), "resend m(1)": ("resend", "m", (ONE,)), "object { }": ("object", ()),
            "fn() { }": ("fn", (), ()), "(a + b)": op("+", A, B),
        }
        for text, tree in primaries.items():
            with self.subTest(text):
                self.assertEqual(parse_expr(text + ".b()"), send(tree, "b"))
                self.assertEqual(parse_expr(text + ".call()"), ("call", tree, ()))
                self.assertEqual(statement(text + ".b();"), ("expr", send(tree, "b")))
                self.assertEqual(statement(text + ".x := 1;"), ("assign", tree, "x", ONE))
                self.assertEqual(statement("put " + text + ".x var = 1;"), ("put", tree, "x", "var", ONE))
                self.assertEqual(statement("drop " + text + ".x;"), ("drop", tree, "x"))

    def test_dots_of_the_postfix_before_that_of_a_put(self):
        self.assertEqual(statement("put a.b().x const = 1;"), ("put", send(A, "b"), "x", "const", ONE))
        self.assertEqual(
            statement("put a.b(1).call(2).x var parent = 1;"),
            ("put", ("call", send(A, "b", ONE), (TWO,)), "x", "varparent", ONE))

    def test_dots_of_the_postfix_before_that_of_a_drop(self):
        self.assertEqual(statement("drop a.b().x;"), ("drop", send(A, "b"), "x"))
        self.assertEqual(statement("drop a.call().b().x;"), ("drop", send(("call", A, ()), "b"), "x"))

    def test_dots_of_the_postfix_before_that_of_an_assignment(self):
        self.assertEqual(statement("a.b().x := 1;"), ("assign", send(A, "b"), "x", ONE))
        self.assertEqual(statement("a.call(1).x := b.c();"), ("assign", ("call", A, (ONE,)), "x", send(B, "c")))

    def test_dots_of_a_postfix_that_begins_an_expression(self):
        self.assertEqual(statement("a.b(1).call() + 2;"), ("expr", op("+", ("call", send(A, "b", ONE), ()), TWO)))


class TestNesting(unittest.TestCase):
    DEPTHS = (1, 2, 39, 40, 60)

    def test_parentheses(self):
        for depth in self.DEPTHS:
            self.assertEqual(parse_expr("(" * depth + "a" + ")" * depth), A)

    def test_operators_to_the_right(self):
        for depth in self.DEPTHS:
            tree = A
            for _ in range(depth):
                tree = op("<", ONE, op("+", TWO, op("*", THREE, tree)))
            self.assertEqual(parse_expr("1 < 2 + 3 * (" * depth + "a" + ")" * depth), tree)

    def test_operators_in_a_row(self):
        for depth in self.DEPTHS:
            tree = A
            for _ in range(depth):
                tree = op("-", tree, ONE)
            self.assertEqual(parse_expr("a" + " - 1" * depth), tree)

    def test_dots_in_a_row(self):
        for depth in self.DEPTHS:
            tree = A
            for _ in range(depth):
                tree = ("call", send(tree, "b"), ())
            self.assertEqual(parse_expr("a" + ".b().call()" * depth), tree)

    def test_arguments(self):
        for depth in self.DEPTHS:
            tree = A
            for _ in range(depth):
                tree = send(B, "m", ONE, ("own", "n", (tree,)))
            self.assertEqual(parse_expr("b.m(1, n(" * depth + "a" + "))" * depth), tree)

    def test_bodies(self):
        for depth in self.DEPTHS:
            body = ()
            for _ in range(depth):
                body = (("if", A, (), (("while", B, body),)),)
            text = "if a { } else { while b { " * depth + "} }" * depth
            self.assertEqual(statements(text), body)

    def test_blocks(self):
        for depth in self.DEPTHS:
            body = ()
            for _ in range(depth):
                body = (("print", op("+", ONE, ("fn", (), body))),)
            self.assertEqual(statements("print 1 + fn() { " * depth + "};" * depth), body)

    def test_objects(self):
        for depth in self.DEPTHS:
            tree = ("object", ())
            for _ in range(depth):
                tree = ("object", (("var", "x", tree),))
            self.assertEqual(parse_expr("object { var x = " * depth + "object { }" + "; }" * depth), tree)


if __name__ == "__main__":
    unittest.main()
