"""Points 2.9 and 2.10: listings, written and read."""

import unittest

from reaimed.emit import compile_text, emit
from reaimed.errors import BadListing
from reaimed.listing import read_listing, write_listing
from reaimed.tokens import KEYWORDS
from values import Chance, kinds_in

KINDS = ("const", "var", "parent", "varparent", "method")
SIGNS = ("==", "<", "<=", "+", "-", "*", "div", "mod")
MOST = 10 ** 12
HEAD = "code 0 params 0 locals 0 captured 0\n"
MAIN = "main 0\n"

# Each kind of row with its text.
ROWS = {
    ("push", ("num", 0)): "push 0", ("push", ("num", 7)): "push 7", ("push", ("num", MOST)): "push 1000000000000",
    ("push", ("true",)): "push true", ("push", ("false",)): "push false", ("push", ("nothing",)): "push nothing",
    ("self",): "self", ("local", 0): "local 0", ("local", MOST): "local 1000000000000", ("set", 0): "set 0",
    ("set", 12): "set 12", ("outer", 1, 0): "outer 1 0", ("outer", 0, 5): "outer 0 5", ("outer", MOST, MOST):
    "outer 1000000000000 1000000000000", ("setouter", 2, 30): "setouter 2 30", ("setouter", 0, 0): "setouter 0 0",
    ("pop",): "pop", ("send", "a", 0): "send a 0", ("send", "main2", MOST): "send main2 1000000000000",
    ("resend", "a_1", 3): "resend a_1 3", ("call", 0): "call 0", ("call", 10): "call 10", ("assign", "a"): "assign a",
    ("drop", "Z"): "drop Z", ("method", 0): "method 0", ("method", 99): "method 99", ("block", 1): "block 1",
    ("return",): "return", ("home",): "home", ("jump", 0): "jump 0", ("jumpno", 5): "jumpno 5", ("print",): "print",
    ("object", ()): "object", ("object", (("a", "const"),)): "object a const",
    ("object", (("a", "const"), ("b", "var"), ("c", "parent"), ("d", "varparent"), ("e", "method"))):
    "object a const b var c parent d varparent e method",
    ("object", (("a", "var"), ("a", "var"))): "object a var a var",
    **{("put", "a", kind): "put a " + kind for kind in KINDS}, **{("prim", sign): "prim " + sign for sign in SIGNS},
}


class ListingCase(unittest.TestCase):
    def same(self, code, text):
        """Checks that a program is written as a text, and read from it."""
        self.assertEqual(write_listing(code), text)
        self.reads(code, text)

    def reads(self, code, text):
        found = read_listing(text)
        self.assertEqual(found, code)
        self.assertEqual(repr(found), repr(code))

    def wrong(self, row, text):
        with self.assertRaises(BadListing, msg=text) as caught:
            read_listing(text)
        self.assertEqual(caught.exception.row, row, text)

    def wrong_row(self, *rows):
        """Checks that rows are wrong within a code, where else all is right, and also where not."""
        for row in rows:
            self.wrong(2, HEAD + row + "\n" + MAIN)
            self.wrong(3, HEAD + "    pop\n" + row + "\n    return\n" + MAIN)
            self.wrong(3, HEAD + "    pop\n" + row + "\n    retur\n" + MAIN)
            self.wrong(3, HEAD + HEAD.replace("code 0", "code 1") + row + "\n" + MAIN)

    def wrong_inner(self, *rows):
        """The same for rows with the spaces that rows of codes have."""
        self.wrong_row(*["    " + row for row in rows])


class TestInterface(ListingCase):
    def test_functions_stand_in_their_file(self):
        self.assertEqual(write_listing.__module__, "reaimed.listing")
        self.assertEqual(read_listing.__module__, "reaimed.listing")

    def test_arguments_can_be_passed_by_name(self):
        self.assertEqual(write_listing(code=((), 0)), MAIN)
        self.assertEqual(read_listing(text=MAIN), ((), 0))

    def test_kinds_of_values(self):
        code = read_listing(write_listing(compile_text("main { print fn() { print 1; }; }")))
        self.assertEqual(kinds_in(code), {tuple, int, str, bool})
        for params, places, captured, rows in code[0]:
            self.assertEqual([part.__class__ for part in (params, places, captured, rows)], [int, int, bool, tuple])
            self.assertNotIn(bool, kinds_in(rows))
        self.assertIs(code[1].__class__, int)


class TestRight(ListingCase):
    def test_each_kind_of_row(self):
        for row, text in ROWS.items():
            self.same((((0, 0, False, (row,)),), 0), HEAD + "    " + text + "\n" + MAIN)
        rows = tuple(ROWS)
        self.same((((0, 0, False, rows),), 0), HEAD + "".join(f"    {ROWS[row]}\n" for row in rows) + MAIN)

    def test_heads(self):
        for params, places in ((0, 0), (1, 1), (2, 10), (MOST, MOST), (5, 0)):
            for captured in (False, True):
                self.same((((params, places, captured, (("pop",),)),), 0), (
                    f"code 0 params {params} locals {places} captured {1 if captured else 0}\n    pop\nmain 0\n"))

    def test_several_codes(self):
        self.same((((0, 1, True, (("block", 1), ("pop",))), (2, 3, False, (("home",),)), (1, 1, False, (("return",),))), 0), (
            "code 0 params 0 locals 1 captured 1\n    block 1\n    pop\n"
            "code 1 params 2 locals 3 captured 0\n    home\n"
            "code 2 params 1 locals 1 captured 0\n    return\n"
            "main 0\n"))

    def test_eleven_codes(self):
        self.same((((0, 0, False, (("pop",),)),) * 11, 10), (
            "".join(f"code {at} params 0 locals 0 captured 0\n    pop\n" for at in range(11)) + "main 10\n"))

    def test_a_code_without_rows(self):
        self.same((((0, 0, False, ()),), 0), HEAD + MAIN)
        self.same((((0, 0, False, ()), (0, 0, False, (("pop",),))), 0), (
            HEAD + "code 1 params 0 locals 0 captured 0\n    pop\n" + MAIN))

    def test_no_codes(self):
        for main in (0, 1, 25, MOST):
            self.same(((), main), f"main {main}\n")

    def test_the_code_of_the_interface(self):
        self.same(compile_text("main { print 1 + 2; }"), (
            "code 0 params 0 locals 0 captured 0\n    push 1\n    push 2\n    prim +\n    print\n    push nothing\n"
            "    return\nmain 0\n"))

    def test_what_is_not_checked(self):
        self.reads((((2, 1, True, (("pop",), ("jump", 70), ("local", 9), ("method", 8), ("outer", 0, 0))),), 6), (
            "code 0 params 2 locals 1 captured 1\n    pop\n    jump 70\n    local 9\n    method 8\n    outer 0 0\n"
            "main 6\n"))
        self.reads((((0, 0, False, (("block", 0),)),), 0), HEAD + "    block 0\n" + MAIN)

    def test_by_chance(self):
        for seed in range(200):
            code = emit(Chance(seed).program(5))
            text = write_listing(code)
            self.same(code, text)
            self.assertEqual(text.count("\n"), sum(1 + len(one[3]) for one in code[0]) + 1)


class TestEnds(ListingCase):
    def test_the_empty_text(self):
        self.wrong(1, "")

    def test_no_main_row(self):
        self.wrong(2, HEAD)
        self.wrong(3, HEAD + "    pop\n")
        self.wrong(4, HEAD + "    pop\n    print\n")

    def test_a_row_without_a_newline(self):
        self.wrong(1, "main 0")
        self.wrong(1, HEAD[:-1])
        self.wrong(2, HEAD + "main 0")
        self.wrong(3, HEAD + "    pop\nmain 0")
        self.wrong(2, HEAD + "    pop")
        self.wrong(2, HEAD + " ")
        self.wrong(1, " ")
        self.wrong(1, "x\nmain 0")

    def test_rows_behind_the_main_row(self):
        for row in ("main 0", HEAD[:-1], "code 1 params 0 locals 0 captured 0", "    pop", "", " ", "x"):
            self.wrong(2, MAIN + row + "\n")
            self.wrong(3, HEAD + MAIN + row + "\n")
            self.wrong(3, HEAD + MAIN + row + "\n" + MAIN)
            if row:
                self.wrong(3, HEAD + MAIN + row)

    def test_rows_before_the_first_code(self):
        self.wrong(1, "    pop\n" + HEAD + MAIN)
        self.wrong(1, "\n" + HEAD + MAIN)
        self.wrong(1, "    pop\n" + MAIN)

    def test_the_first_wrong_row_counts(self):
        self.wrong(2, HEAD + "    pop 1\n    pup\nmain 0")
        self.wrong(3, HEAD + "    pop\nmain\nmain 0\nmain 0")


class TestSpaces(ListingCase):
    def test_other_spaces_before_a_row(self):
        for text in ROWS.values():
            self.wrong_row(*[before + text for before in ("", " ", "  ", "   ", "     ", "\t", "\t   ", "        ")])
        for row in (HEAD[:-1], "code 1 params 0 locals 0 captured 0", "main 0"):
            self.wrong(1, " " + row + "\n")
            self.wrong(1, "    " + row + "\n")
            self.wrong_row(" " + row, "    " + row)

    def test_other_spaces_in_a_row(self):
        for text in ROWS.values():
            self.wrong_inner(text + " ", text.replace(" ", "  ", 1) + " " * (" " not in text), text + "\t", text + "\r",
                             text.replace(" ", "\t") + "\t" * (" " not in text))
        for row in (HEAD[:-1], "code 1 params 0 locals 0 captured 0", "main 0"):
            self.wrong_row(row + " ", row + "\r", row.replace(" ", "\t"))
            for at in range(row.count(" ")):
                words = row.split(" ")
                words[at] += " "
                self.wrong_row(" ".join(words))

    def test_empty_rows(self):
        self.wrong_row("", " ", "    ", "     ", "        ")

    def test_other_ends_of_rows(self):
        for end in ("\r\n", "\r", "\v", "\f", "\x1c", "\x85", "\u2028"):
            self.wrong(1, HEAD[:-1] + end + MAIN)
            self.wrong(2, HEAD + "    pop" + end + MAIN)
        self.wrong(1, "main 0\r\n")


class TestWords(ListingCase):
    def test_left_out_and_added(self):
        for text in ROWS.values():
            words = text.split(" ")
            if words[0] == "object":
                continue
            for at in range(len(words)):
                self.wrong_inner(" ".join(words[:at] + words[at + 1:]))
            self.wrong_inner(text + " 0", text + " a", text + " const", text + " true", "0 " + text, text + " " + words[-1])

    def test_unknown(self):
        self.wrong_inner("Pop", "POP", "pops", "po", "noop", "0", "true", "#", "push_1", "pop;", "code", "main", "enter",
                         "local0", "\u00e9")

    def test_heads(self):
        row = HEAD[:-1]
        words = row.split(" ")
        for at, word in enumerate(words):
            left_out = " ".join(words[:at] + words[at + 1:])
            added = " ".join(words[:at] + [word] + words[at:])
            other = " ".join(words[:at] + ["x"] + words[at + 1:])
            for text in (left_out, added, other):
                self.wrong(1, text + "\n" + MAIN)
                self.wrong(3, HEAD + "    pop\n" + text.replace("code 0", "code 1") + "\n" + MAIN)
        self.wrong(1, "Code 0 params 0 locals 0 captured 0\n" + MAIN)
        self.wrong(1, "code 0 locals 0 params 0 captured 0\n" + MAIN)
        self.wrong(1, row + " 0\n" + MAIN)

    def test_main(self):
        for text in ("main", "main 0 0", "Main 0", "main x", "main true", "0", "main0", "main 0;"):
            self.wrong(1, text + "\n")
            self.wrong(2, HEAD + text + "\n")

    def test_codes_with_other_numbers(self):
        for number in ("1", "2", "00", "01", "-1", "+0", "x", "\u0660", "1000000000001"):
            self.wrong(1, HEAD.replace("code 0", "code " + number) + MAIN)
        for number in ("0", "2", "01", "3", "-1", "11"):
            self.wrong(3, HEAD + "    pop\n" + HEAD.replace("code 0", "code " + number) + MAIN)


class TestNumbers(ListingCase):
    WRONG = ("00", "01", "007", "-1", "-0", "+1", "1000000000001", "9999999999999", "1" + "0" * 13, "1" * 5000, "1_0", "1.0",
             "1e3", "0x1", "\u0661", "\u00b2", "\uff11", "one", "True", "None", "1a", "(1)")

    def test_in_rows(self):
        for number in self.WRONG:
            self.wrong_inner(*[row + number for row in (
                "push ", "local ", "set ", "outer 1 ", "setouter 1 ", "send a ", "resend a ", "call ", "method ", "block ",
                "jump ", "jumpno ")], "outer " + number + " 1", "setouter " + number + " 1")

    def test_words_that_are_values_elsewhere(self):
        for word in ("true", "false", "nothing"):
            self.wrong_inner("local " + word, "call " + word, "outer 1 " + word, "send a " + word, "jump " + word)
        self.wrong_inner("push self", "push num", "push num 1", "push a", "push", "push True")

    def test_in_heads_and_main(self):
        for number in self.WRONG:
            self.wrong(1, f"code 0 params {number} locals 0 captured 0\n{MAIN}")
            self.wrong(1, f"code 0 params 0 locals {number} captured 0\n{MAIN}")
            self.wrong(1, f"main {number}\n")

    def test_captured(self):
        for word in ("2", "00", "01", "-1", "True", "true", "x", "10", "\u0661"):
            self.wrong(1, f"code 0 params 0 locals 0 captured {word}\n{MAIN}")


class TestNames(ListingCase):
    WRONG = (*KEYWORDS, "1", "1a", "_", "_a", "a-b", "a.b", "a;", "\u00e9", "a\u00e9", "a\u0661", "(a)", "'a'")

    def test_names(self):
        for name in self.WRONG:
            self.wrong_inner(f"send {name} 0", f"resend {name} 0", f"assign {name}", f"put {name} var", f"drop {name}",
                             f"object {name} var", f"object a const {name} var")

    def test_kinds(self):
        for kind in ("Const", "vars", "var_parent", "let", "a", "0", "true", "fixed"):
            self.wrong_inner(f"put a {kind}", f"object a {kind}", f"object a const b {kind}", f"object a {kind} b const")

    def test_pairs(self):
        self.wrong_inner("object a", "object a var b", "object var", "object var a", "object a var var", "object a b var var",
                         "object a var b var c", "object a  var", "object 0")

    def test_signs(self):
        for sign in ("=", ":=", "/", "Div", ">", ">=", "!=", "<<", "a", "0", "++"):
            self.wrong_inner(f"prim {sign}")


class TestArguments(ListingCase):
    def test_writing_twice(self):
        code = compile_text("main { print fn() { print 1; }; }")
        before = repr(code)
        self.assertEqual(write_listing(code), write_listing(code))
        self.assertEqual(repr(code), before)


if __name__ == "__main__":
    unittest.main()
