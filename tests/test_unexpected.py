"""Point 1.8 and the dots of 1.6: the first token that the grammar does not allow."""

import unittest

from grammar import Reader, words_of
from reaimed.errors import AimError, BadCharacter, BadNumber, TextError, Unexpected
from reaimed.parser import parse, parse_expr
from reaimed.tokens import KEYWORDS, tokens

SIGNS = ("{", "}", "(", ")", ",", ";", ".", "=", ":=", "+", "-", "*", "==", "<", "<=")

# Each line of the grammar, and each choice in it, at least once.
SAMPLE = """object o { a = 1; const b = 2; var c = x; parent d = o; var parent e = nothing; method f() { } }
object p { }
method g(q) { return q.r(); }
method h(s, t, u) { print s; }
main {
    let v = 1 + 2 - 3;
    v := v * 4 div 5 mod 6;
    if v == 7 { } else { v; }
    if v < 8 { while v <= 9 { v := true; } }
    put o.i const = fn() { };
    put o.j(1).k var parent = fn(w, x) { w; };
    put o.y var = 1;
    put o.z parent = 1;
    drop o.l;
    drop self.call(2, 3).m;
    o.n := object { a = 1; };
    o.call().n := false;
    o.n(1).call(2).o() + 1;
    n() - (n(1, 2) + resend n() * resend m(v));
}
"""


def thrown(read, text):
    """The error that reading a text raises, or None."""
    try:
        read(text)
    except AimError as error:
        return error
    return None


class WrongCase(unittest.TestCase):
    def unexpected(self, row, column, text, read=parse):
        """Checks that a text raises Unexpected with this place."""
        error = thrown(read, text)
        self.assertIs(error.__class__, Unexpected, text)
        self.assertEqual((error.row, error.column), (row, column), text)

    def wrong_at(self, mark, text, read=parse):
        """The same for the first place where a mark, which no text has, stands; it is taken out."""
        before, after = text.split(mark)
        rows = before.split("\n")
        self.unexpected(len(rows), len(rows[-1]) + 1, before + after, read)

    def statement(self, text):
        """The same for statements in main; the mark is @."""
        self.wrong_at("@", "main {\n " + text + "}")

    def expression(self, text):
        """The same for an expression; the mark is @."""
        self.wrong_at("@", text, parse_expr)
        self.statement("print " + text + ";")


class TestStatements(WrongCase):
    def test_words_that_begin_no_statement(self):
        for word in ("method", "main", "const", "var", "parent", "else", "call", "div", "mod", ")", "{", ",", ";",
                     ".", "=", ":=", "+", "-", "*", "==", "<", "<="):
            self.statement("@" + word + " x")
            self.statement("1; @" + word)
            self.statement("if a { @" + word + " }")

    def test_let(self):
        for text in ("let @= 1;", "let @1 = 1;", "let @let = 1;", "let a@;", "let a @:= 1;", "let a = @;",
                     "let a = 1@", "let a@.b = 1;"):
            self.statement(text)

    def test_set(self):
        for text in ("a := @;", "a := 1@", "a := b @:= 1;", "(a) @:= 1;", "1 @:= 1;", "self @:= 1;", "a() @:= 1;",
                     "a + b @:= 1;", "a @= 1;"):
            self.statement(text)

    def test_print_and_return(self):
        for word in ("print", "return"):
            for text in (" @;", " 1@", " 1 @2;", " @let a = 1;", " a @:= 1;", " @return 1;"):
                self.statement(word + text)

    def test_if_and_while(self):
        for text in ("if @{ }", "if a @;", "if a @print 1;", "if a { 1; @) ", "while a { } @else { }", "if a { } else @;",
                     "if a { } else @if b { }", "if a { } else { } @else { }", "while @{ }", "while a @1;",
                     "if a { 1; @else { } }"):
            self.statement(text)

    def test_put(self):
        for text in ("put @.x var = 1;", "put a@;", "put a @x var = 1;", "put a.@;", "put a.@1 var = 1;",
                     "put a.x @= 1;", "put a.x @:= 1;", "put a.x @method = 1;", "put a.x var @;",
                     "put a.x const @parent = 1;", "put a.x parent @var = 1;", "put a.x var parent @parent = 1;",
                     "put a.x var = @;", "put a.x var = 1@", "put a @+ b.x var = 1;", "put a @== 1;"):
            self.statement(text)

    def test_drop(self):
        for text in ("drop @;", "drop a@;", "drop a @x;", "drop a.@;", "drop a.@1;", "drop a.x @= 1;", "drop a.x @:= 1;",
                     "drop a.x@", "drop a @+ b.x;", "drop a.x @var;"):
            self.statement(text)

    def test_expression(self):
        for text in ("a@", "a @b;", "a @1;", "1 @2;", "a @{ }", "a @true;", "(a)@(1);", "a + @;", "a @, b;", "a@)"):
            self.statement(text)


class TestExpressions(WrongCase):
    def test_words_that_begin_no_expression(self):
        for word in (set(KEYWORDS) | set(SIGNS)) - {"true", "false", "nothing", "self", "object", "fn", "resend", "("}:
            self.wrong_at("@", "@" + word, parse_expr)
            self.wrong_at("@", "1 + @" + word, parse_expr)
            self.wrong_at("@", "(@" + word, parse_expr)

    def test_a_second_comparison(self):
        for one in ("==", "<", "<="):
            for other in ("==", "<", "<="):
                self.expression(f"a {one} b @{other} c")
                self.expression(f"a * 1 {one} b + 2 @{other} c - 3")
                self.expression(f"(a {one} b @{other} c)")
                self.expression(f"m(1, a {one} b @{other} c)")

    def test_operators_without_operands(self):
        for sign in ("+", "-", "*", "div", "mod", "==", "<", "<="):
            self.expression(f"@{sign} 1")
            self.expression(f"1 {sign} @{sign} 1")
            self.expression(f"(1 {sign} @)")

    def test_parentheses(self):
        self.expression("(@)")
        self.expression("(1 @2)")
        self.expression("(1@, 2)")
        self.expression("((1)@; 2")
        self.expression("(1)@)")
        self.expression("(a @:= 1)")
        self.expression("(@print 1)")

    def test_arguments(self):
        for head in ("m", "resend m", "a.m", "a.call"):
            for text in ("(@,)", "(1 @2)", "(1,@)", "(1,@,2)", "(@;", "(1@;", "(1, 2@;", "(a@=1)"):
                self.expression(head + text)

    def test_resend(self):
        for text in ("resend @1", "resend @(1)", "resend m@.b()", "resend m @+ 1", "resend @self", "resend @call()"):
            self.expression(text)

    def test_blocks(self):
        for text in ("fn @{ }", "fn @f() { }", "fn(@1) { }", "fn(a @b) { }", "fn(a,@) { }", "fn(@,) { }",
                     "fn(@self) { }", "fn() @1", "fn() { @) }", "fn() { a @}", "fn(a @= 1) { }", "fn(@(a)) { }"):
            self.expression(text)

    def test_objects(self):
        for text in ("object @o { }", "object @(1)", "object { @1 }", "object { x @:= 1; }", "object { x = @; }",
                     "object { x = 1 @}", "object { const @var x = 1; }", "object { parent @var x = 1; }",
                     "object { var parent @parent x = 1; }", "object { var @= 1; }", "object { @let x = 1; }",
                     "object { x = 1; @; }", "object { method @= 1; }", "object { method m @{ } }",
                     "object { method m() @; }", "object { method m(@1) { } }", "object { const @method m() { } }",
                     "object { method m() { } @; }", "object { x@; }", "object { x@.y = 1; }"):
            self.expression(text)

    def test_something_behind_the_expression(self):
        for text in ("1 @2", "a @b", "1 @;", "a @:= 1", "a @= 1", "a() @{", "1 @)", "fn() { } @(1)"):
            self.wrong_at("@", text, parse_expr)

    def test_the_empty_text(self):
        self.unexpected(1, 1, "", parse_expr)
        self.unexpected(2, 3, "\n  ", parse_expr)
        self.unexpected(1, 4, "# x", parse_expr)


class TestDots(WrongCase):
    def test_unexpected_in_an_expression(self):
        for text in ("a@.b", "a@.call", "a@.1", "a@.", "a@.(1)", "a@.self()", "a@.b.c()", "a.b()@.c", "a.b()@.call",
                     "(a@.b)", "m(a@.b)", "1 + a@.b", "a@.b + 1", "a @. b == 1", "a@..b()", "a@.b := 1",
                     "resend m()@.b", "fn() { }@.x", "object { }@.x", "m(1, a.b()@.c, 2)"):
            self.expression(text)

    def test_unexpected_behind_other_words_of_a_statement(self):
        for text in ("let a = b@.c;", "a := b@.c;", "a.b := c@.d;", "a.b := c@.d := 1;", "print a@.b := 1;",
                     "return a@.b;", "if a@.b { }", "while a@.b { }", "put a.b var = c@.d;", "1 + a@.b := 1;",
                     "a == b@.c := 1;", "a.m() * b@.c := 1;", "a.m(b@.c).d := 1;", "(a@.b).c := 1;"):
            self.statement(text)

    def test_unexpected_in_slots(self):
        self.wrong_at("@", "object o { x = a@.b; } main { }")
        self.wrong_at("@", "object o { method m() { print a@.b; } } main { }")

    def test_wanted_by_a_put(self):
        for text in ("put a.b()@;", "put a.b() @var = 1;", "put a.call()@;", "put a.@call var = 1;", "put a.b@.c var = 1;",
                     "put a.b().c@.d var = 1;", "put a.b var = 1@.c;", "put a.@self var = 1;", "put (a@.b).c var = 1;",
                     "put a.@.b var = 1;", "put a.b(1)@(2).c var = 1;"):
            self.statement(text)

    def test_wanted_by_a_drop(self):
        for text in ("drop a.b()@;", "drop a.call()@;", "drop a.@call;", "drop a.b@.c;", "drop a.b().c@.d;",
                     "drop a.@self;", "drop (a@.b).c;", "drop a.@.b;"):
            self.statement(text)

    def test_wanted_by_an_assignment(self):
        for text in ("a.b@;", "a.@;", "a.@1;", "a.@call;", "a.@call := 1;", "a.b@.c := 1;", "a.b@.c();", "a.b @+ 1;",
                     "a.b @= 1;", "a.b().c@;", "a.b().c@.d := 1;", "a.b := @;", "a.b := 1@", "a.b() @:= 1;",
                     "a.call() @:= 1;", "a.@self := 1;", "a.b @== 1;", "a.@.b := 1;", "a.@(b) := 1;"):
            self.statement(text)


class TestPrograms(WrongCase):
    def test_the_empty_text(self):
        self.unexpected(1, 1, "")
        self.unexpected(3, 1, "# a\n\n")

    def test_words_that_begin_no_item(self):
        for text in ("@a", "@1", "@{ }", "@let a = 1;", "@print 1;", "@main2 { }", "@;", "@} main { }", "@const a = 1;",
                     "object a { } @; main { }", "method m() { } @1 main { }", "@resend m()", "@fn() { }"):
            self.wrong_at("@", text)

    def test_items(self):
        for text in ("object @{ } main { }", "object @main { }", "object @1 { } main { }", "object a @main { }",
                     "object a @= 1; main { }", "object a { @", "object a { } @", "object a { } @} main { }",
                     "method @() { } main { }", "method m @{ } main { }", "method m(@1) { } main { }",
                     "method m(a @b) { } main { }", "method m(a,@) { } main { }", "method m() @main { }",
                     "method m(@self) { } main { }", "method m() @; main { }", "method @call() { } main { }"):
            self.wrong_at("@", text)

    def test_main(self):
        for text in ("main @", "main @;", "main @()", "main @main { }", "main @m { }", "main {@", "main { 1; @"):
            self.wrong_at("@", text)

    def test_something_behind_the_end(self):
        for text in ("main { } @main { }", "main { } @;", "main { } @}", "main { }\n\n @method m() { }", "main { }@1",
                     "main { } @object o { }", "main { } # x\n  @x"):
            self.wrong_at("@", text)

    def test_it_is_a_text_error(self):
        with self.assertRaises(TextError):
            parse("main")


class TestOrder(WrongCase):
    def test_errors_of_tokens_are_raised_before(self):
        for text, error, row, column in (
                ("main ; 01", BadNumber, 1, 8), ("} main { }\n %", BadCharacter, 2, 2),
                ("main { print a.b; }\n\n1x", BadNumber, 3, 1), ("main { } main _", BadCharacter, 1, 15),
                ("01 ;", BadNumber, 1, 1), (": ;", BadCharacter, 1, 1), ("main main 1000000000001 %", BadNumber, 1, 11)):
            for read in (parse, parse_expr):
                found = thrown(read, text)
                self.assertIs(found.__class__, error, text)
                self.assertEqual((found.row, found.column), (row, column), text)


class TestAgainstTheGrammar(WrongCase):
    """Compares the parser with a reader that has the grammar alone."""

    def setUp(self):
        self.reader = Reader("program")

    def compare(self, text):
        """Checks that the parser refuses just what the grammar refuses, at the same place."""
        place = self.reader.wrong_place(text)
        error = thrown(parse, text)
        found = None
        if error is not None:
            self.assertIs(error.__class__, Unexpected, text)
            found = (error.row, error.column)
        self.assertEqual(found, place, text)
        return place

    def prefixes(self):
        """Each token of the sample with the text before it."""
        rows = SAMPLE.split("\n")
        for token in tokens(SAMPLE):
            _, _, row, column = token
            yield token, "\n".join(rows[:row - 1] + [rows[row - 1][:column - 1]])

    def test_the_sample_is_a_program(self):
        self.assertIsNone(self.compare(SAMPLE))
        used = set(words_of(tokens(SAMPLE)))
        self.assertEqual(used, set(KEYWORDS) | set(SIGNS) | {"name", "number", "own-dot", "end"})

    def test_cut_short_at_each_token(self):
        for token, before in self.prefixes():
            if token[0] != "end":
                self.assertIsNotNone(self.compare(before))

    def test_each_word_at_each_place(self):
        for _, before in self.prefixes():
            for word in KEYWORDS + SIGNS + ("name", "1"):
                self.compare(before + " " + word)

    def test_dots_at_each_place(self):
        for _, before in self.prefixes():
            for tail in (". b ;", ". b (", ". b := 1 ;", ". call ;", ". call (", ". call :=", ". 1", ". b . c",
                         ". b . c ( ) ;", ". b var = 1 ;", ". b ( ) . c ( ) . d ;"):
                self.compare(before + " " + tail)

    def test_each_token_left_out_or_doubled(self):
        for token, before in self.prefixes():
            word = token[1]
            after = SAMPLE[len(before) + len(word):]
            self.compare(before + " " + after)
            self.compare(before + word + " " + word + " " + after)


if __name__ == "__main__":
    unittest.main()
