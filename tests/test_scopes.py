"""Points 2.1 and 2.2: the locals of codes, and the names that are double or unknown."""

import unittest

from reaimed.errors import DoubleName, ScopeError, UnknownName
from reaimed.parser import parse
from reaimed.scopes import check_scopes
from values import Chance


class ScopeCase(unittest.TestCase):
    def right(self, text):
        self.assertIsNone(check_scopes(parse(text)), text)

    def wrong(self, error, name, text):
        tree = parse(text)
        with self.assertRaises(ScopeError, msg=text) as caught:
            check_scopes(tree)
        self.assertIs(caught.exception.__class__, error, text)
        self.assertEqual(caught.exception.name, name, text)

    def places(self, statements):
        """The statements in all places where a body may stand."""
        yield f"main {{ {statements} }}"
        yield f"method m() {{ {statements} }} main {{ }}"
        yield f"object o {{ method m() {{ {statements} }} }} main {{ }}"
        yield f"object o {{ x = fn() {{ {statements} }}; }} main {{ }}"
        yield f"main {{ if true {{ {statements} }} }}"
        yield f"main {{ if true {{ }} else {{ {statements} }} }}"
        yield f"main {{ while true {{ {statements} }} }}"
        yield f"main {{ a(fn() {{ {statements} }}); }}"
        yield f"main {{ print object {{ method m() {{ {statements} }} }}; }}"

    def right_statements(self, statements):
        for text in self.places(statements):
            self.right(text)

    def double(self, name, statements):
        for text in self.places(statements):
            self.wrong(DoubleName, name, text)

    def unknown(self, name, statements):
        for text in self.places(statements):
            self.wrong(UnknownName, name, text)

    def expressions(self, expression):
        """The statements in which this expression stands in each of its places."""
        for statement in ("let z = ?;", "print ?;", "return ?;", "?;", "if ? { }", "while ? { }", "put (?).z var = 1;",
                          "put a.z var = ?;", "drop (?).z;", "(?).z := 1;", "a.z := ?;", "let z = 1; z := ?;",
                          "print 1 + (?);", "print (?) + 1;", "print (?).z();", "print a.z(1, ?);", "print z(1, ?);",
                          "print resend z(1, ?);", "print (?).call();", "print a.call(1, ?);",
                          "print object { z = ?; };", "print object { var z = ?; };", "print fn() { ?; };"):
            yield statement.replace("?", expression)


class TestInterface(ScopeCase):
    def test_function_stands_in_its_file(self):
        self.assertEqual(check_scopes.__module__, "reaimed.scopes")
        self.assertIsNone(check_scopes(program=((), ())))

    def test_the_argument_stays_as_it_was(self):
        text = "object o { x = fn(a) { a := 1; }; } main { let a = 1; if a { let a = 2; a := a; } a := 3; }"
        tree = parse(text)
        check_scopes(tree)
        check_scopes(tree)
        self.assertEqual(tree, parse(text))

    def test_programs_by_chance_are_right(self):
        for seed in range(300):
            self.assertIsNone(check_scopes(Chance(seed).program(5)))


class TestDoubleParameters(ScopeCase):
    def test_methods(self):
        for method in ("method m(a, a) { }", "method m(b, a, a) { }", "method m(a, b, a) { }", "method m(a, b, a, b) { }"):
            self.wrong(DoubleName, "a", method + " main { }")
            self.wrong(DoubleName, "a", "object o { " + method + " } main { }")
            self.double("a", "print object { " + method + " };")

    def test_blocks(self):
        for block in ("fn(a, a) { }", "fn(b, a, a) { }", "fn(a, b, a) { }", "fn(a, b, b, a, b) { }"):
            name = "b" if "b, b" in block else "a"
            for statement in self.expressions(block):
                self.double(name, statement)

    def test_of_different_codes(self):
        self.right("method m(a, b) { } method n(a, b) { } main { fn(a, b) { fn(a, b) { }; }; fn(b, a) { }; }")


class TestDoubleLets(ScopeCase):
    def test_in_one_body(self):
        self.double("a", "let a = 1; let a = 2;")
        self.double("a", "let a = 1; let b = 1; print a; let a = 2;")
        self.double("b", "let a = 1; let b = 1; let b = 2; let a = 2;")
        self.double("a", "let a = 1; if a { let a = 2; } let a = 3;")

    def test_parameters_count_as_earlier_lets(self):
        self.wrong(DoubleName, "a", "method m(a) { let a = 1; } main { }")
        self.wrong(DoubleName, "b", "object o { method m(a, b) { let c = 1; let b = 1; } } main { }")
        self.double("a", "fn(a) { let a = 1; };")
        self.double("a", "fn(b, a) { print 1; let a = 1; };")

    def test_in_bodies_within_each_other(self):
        self.right_statements("let a = 1; if a { let a = 2; if a { let a = 3; } else { let a = 4; } } else { let a = 5; }")
        self.right_statements("let a = 1; while a { let a = 2; }")
        self.right_statements("let a = 1; fn() { let a = 2; }; fn(a) { fn() { let a = 3; }; };")
        self.right_statements("fn(a) { if true { let a = 1; } while true { let a = 2; } };")
        self.right("method m(a) { if a { let a = 1; } else { let a = 2; } while a { let a = 3; } } main { }")

    def test_in_bodies_beside_each_other(self):
        self.right_statements("if true { let a = 1; } else { let a = 2; } while true { let a = 3; } let a = 4;")
        self.right_statements("fn() { let a = 1; }; fn() { let a = 1; }; let a = 2;")

    def test_names_of_items_and_slots_are_no_locals(self):
        self.right("object a { b = 1; } method b(a) { let b = 1; } main { let a = object { a = 1; b = 2; }; let b = 2; }")

    def test_a_name_is_free_behind_the_expression_of_another_let(self):
        self.right_statements("let a = fn(b) { let a = 1; let c = 2; }; let b = 1; let c = 1;")


class TestDoubleSlots(ScopeCase):
    def test_two_slots(self):
        for slots in ("a = 1; a = 2;", "var a = 1; parent a = 2;", "b = 1; a = 1; c = 1; var parent a = 2; b = 3;",
                      "a = 1; method a() { }", "method a() { } a = 1;", "method a() { } method a(b) { }"):
            self.wrong(DoubleName, "a", "object o { " + slots + " } main { }")
            for statement in self.expressions("object { " + slots + " }"):
                self.double("a", statement)

    def test_of_different_objects(self):
        self.right("object o { a = object { a = object { a = 1; }; }; b = object { a = 1; }; } main { }")
        self.right_statements("object { a = 1; }; object { a = 1; b = object { a = 1; b = 2; }; };")

    def test_names_of_locals(self):
        self.right_statements("let a = 1; object { a = a; method b(a) { let b = 1; } };")


class TestDoubleItems(ScopeCase):
    def test_two_items(self):
        for text in ("object a { } object a { }", "object a { } method a() { }", "method a() { } object a { }",
                     "method a() { } object b { } method c() { } method a() { }", "object a { } object a { } object b { } "
                     "object b { }"):
            self.wrong(DoubleName, "a", text + " main { }")

    def test_different_items(self):
        self.right("object a { } object b { } method c() { } main { }")

    def test_an_item_may_be_named_lobby(self):
        self.right("object lobby { } main { }")
        self.right("method lobby() { } main { }")
        self.wrong(DoubleName, "lobby", "object lobby { } method lobby() { } main { }")


class TestUnknownNames(ScopeCase):
    def test_names_that_are_no_locals(self):
        self.unknown("a", "a := 1;")
        self.unknown("a", "let b = 1; b := 2; a := 1;")
        self.right("main { a; print a; a(); a.b := 1; }")

    def test_items_and_slots_are_no_locals(self):
        self.wrong(UnknownName, "o", "object o { } main { o := 1; }")
        self.wrong(UnknownName, "m", "method m() { m := 1; } main { }")
        self.wrong(UnknownName, "lobby", "main { lobby := 1; }")
        self.unknown("a", "object { var a = 1; b = fn() { a := 1; }; };")
        self.unknown("a", "object { var a = 1; method b() { a := 1; } };")

    def test_a_let_does_not_see_itself(self):
        self.unknown("a", "let a = fn() { a := 1; };")
        self.unknown("a", "let a = object { b = fn() { a := 1; }; };")
        self.right_statements("let a = 1; if a { let a = fn() { a := 2; }; }")

    def test_before_its_let(self):
        self.unknown("a", "a := 1; let a = 2;")
        self.unknown("a", "while true { a := 1; let a = 2; }")
        self.unknown("a", "fn() { a := 1; }; let a = 2;")

    def test_behind_the_end_of_its_body(self):
        self.unknown("a", "if true { let a = 1; } a := 2;")
        self.unknown("a", "if true { let a = 1; } else { a := 2; }")
        self.unknown("a", "if true { } else { let a = 1; } a := 2;")
        self.unknown("a", "while true { let a = 1; } a := 2;")
        self.unknown("a", "while true { if true { let a = 1; } a := 2; }")
        self.unknown("a", "fn() { let a = 1; }; a := 2;")
        self.unknown("a", "fn(a) { }; a := 2;")
        self.unknown("a", "let b = fn(a) { a := 1; }; fn() { a := 2; };")

    def test_to_the_end_of_its_body(self):
        self.right_statements("let a = 1; a := 2; if a { a := 3; } else { a := 4; } while a { a := 5; } a := 6;")
        self.right_statements("if true { let a = 1; while true { if true { } else { a := 2; } } a := 3; }")

    def test_in_blocks(self):
        self.right_statements("let a = 1; fn() { a := 2; fn(b) { a := 3; b := 4; fn() { a := b; }; }; };")
        for statement in self.expressions("fn() { a := 1; }"):
            self.right_statements("let a = 1; if true { " + statement + " }")
            self.unknown("a", statement)

    def test_parameters(self):
        self.right("method m(a, b) { a := 1; if true { b := 2; fn() { a := b; }; } } main { fn(a) { a := 1; }; }")
        self.wrong(UnknownName, "c", "method m(a, b) { c := 1; } main { }")
        self.wrong(UnknownName, "a", "method m(a) { } method n() { a := 1; } main { }")

    def test_methods_of_objects_see_their_own_locals_only(self):
        self.unknown("a", "let a = 1; object { method m() { a := 2; } };")
        self.unknown("a", "fn(a) { object { method m() { fn() { a := 2; }; } }; };")
        self.wrong(UnknownName, "a", "method k(a) { object { method m(b) { b := 1; a := 2; } }; } main { }")
        self.right_statements("let a = 1; object { method m(a) { a := 2; let b = 3; fn() { a := b; }; } };")

    def test_locals_of_methods_are_gone_behind_them(self):
        self.unknown("b", "let a = 1; object { method m(b) { let c = 1; } d = fn() { a := 1; b := 2; }; };")

    def test_expressions_of_slots_see_the_locals_around(self):
        for kind in ("", "var ", "parent ", "var parent "):
            self.right_statements("let a = 1; object { " + kind + "b = fn() { a := 2; }; };")
        self.right_statements("fn(a) { object { b = object { c = fn() { a := 2; }; }; }; };")

    def test_items_see_no_locals_of_main(self):
        self.wrong(UnknownName, "a", "object o { b = fn() { a := 1; }; } main { let a = 1; }")
        self.wrong(UnknownName, "a", "method m() { a := 1; } main { let a = 1; }")


class TestOrder(ScopeCase):
    """Of two errors the left one is raised."""

    def test_of_statements_and_items(self):
        self.unknown("a", "a := 1; let b = 1; let b = 2;")
        self.double("b", "let b = 1; let b = 2; a := 1;")
        self.wrong(UnknownName, "a", "method m() { a := 1; } method m() { } main { }")
        self.wrong(DoubleName, "m", "method m() { } method m() { a := 1; } main { }")
        self.wrong(DoubleName, "m", "method m() { } method m(b, b) { } main { }")
        self.wrong(DoubleName, "m", "method m() { } object m { b = 1; b = 2; } main { }")
        self.wrong(DoubleName, "b", "object m { b = 1; b = 2; } method m() { } main { }")
        self.wrong(DoubleName, "c", "method m() { } object o { c = 1; c = 1; } main { let a = 1; let a = 2; }")
        self.wrong(DoubleName, "a", "object o { } method m() { } main { let a = 1; let a = 2; b := 1; }")

    def test_of_a_let_and_its_expression(self):
        self.double("a", "let a = 1; let a = fn(b, b) { };")
        self.double("a", "let a = 1; let a = fn() { b := 1; };")
        self.double("b", "let a = fn(b, b) { }; let a = 1;")

    def test_of_an_assignment_and_its_expression(self):
        self.unknown("a", "a := fn(b, b) { };")
        self.unknown("a", "a := fn() { b := 1; };")
        self.double("b", "let a = fn(b, b) { }; c := 1;")

    def test_of_parameters_and_body(self):
        self.double("a", "fn(a, a) { b := 1; };")
        self.wrong(DoubleName, "a", "method m(a, a) { b := 1; } main { }")
        self.double("b", "fn(a) { fn(b, b) { }; let a = 1; };")

    def test_of_slots(self):
        self.double("a", "object { a = fn(a, a) { }; b = 1; b = 2; };")
        self.double("b", "object { b = 1; b = fn(a, a) { }; };")
        self.double("b", "object { b = 1; method b(a, a) { } };")
        self.unknown("c", "object { b = 1; method d() { c := 1; } b = 2; };")

    def test_of_the_parts_of_statements(self):
        first, second = "fn() { a := 1; }", "fn(b, b) { }"
        for statement in ("put {}.z var = {};", "{}.z := {};", "if {} {{ print {}; }}", "while {} {{ print {}; }}",
                          "if 1 {{ print {}; }} else {{ print {}; }}", "print {} == {};", "print {}.z({});",
                          "print {}.call({});", "print z({}, {});", "print resend z({}, {});", "print z.z({}, {});",
                          "print z.call({}, {});", "print object {{ y = {}; z = {}; }};", "print 1 + {} * {};",
                          "print ({} + 1).z({});", "print fn() {{ {}; {}; }};", "print {}; print {};"):
            self.unknown("a", statement.format(first, second))
            self.double("b", statement.format(second, first))


if __name__ == "__main__":
    unittest.main()
