"""What several tests use: the kinds of values, and programs by chance that are always the same."""

import random

NAMES = ("a", "b", "c")
SIGNS = ("==", "<", "<=", "+", "-", "*", "div", "mod")
KINDS = ("const", "var", "parent", "varparent")


def kinds_in(value):
    """The classes of a value and of all parts of its tuples."""
    found = {value.__class__}
    if value.__class__ is tuple:
        for part in value:
            found |= kinds_in(part)
    return found


class Chance:
    """Trees that a number chooses, nested at most as deep as asked for."""

    def __init__(self, seed):
        self.random = random.Random(seed)
        # The names that can be used, a row of lists for the bodies of each code around.
        self.codes = [[[]]]

    def name(self):
        return self.random.choice(NAMES)

    def program(self, depth=4):
        items = []
        for name in self.random.sample(("o", "p", "lobby"), self.random.randrange(3)):
            if self.random.randrange(2):
                items.append(("object", name, self.slots(depth)))
            else:
                items.append(self.method(name, depth))
        return (tuple(items), self.statements(depth))

    def method(self, name, depth):
        around, self.codes = self.codes, []
        params, body = self.code(depth)
        self.codes = around
        return ("method", name, params, body)

    def code(self, depth):
        params = tuple(self.random.sample(NAMES, self.random.randrange(3)))
        self.codes.append([list(params)])
        body = self.statements(depth)
        self.codes.pop()
        return params, body

    def slots(self, depth):
        found = []
        for name in self.random.sample(NAMES, self.random.randrange(4)):
            if self.random.randrange(4) == 0:
                found.append(self.method(name, depth - 1))
            else:
                found.append((self.random.choice(KINDS), name, self.expr(depth - 1)))
        return tuple(found)

    def body(self, depth):
        self.codes[-1].append([])
        found = self.statements(depth)
        self.codes[-1].pop()
        return found

    def statements(self, depth):
        many = self.random.randrange(4) if depth > 0 else 0
        return tuple([self.statement(depth - 1) for _ in range(many)])

    def statement(self, depth):
        free = [name for name in NAMES if name not in self.codes[-1][-1]]
        known = [name for code in self.codes for body in code for name in body]
        word = self.random.choice(
            ("print", "return", "expr", "expr", "if", "while", "put", "drop", "assign")
            + ("let", "let", "let") * bool(free) + ("set", "set") * bool(known))
        if word == "let":
            name = self.random.choice(free)
            tree = ("let", name, self.expr(depth))
            self.codes[-1][-1].append(name)
            return tree
        if word == "set":
            return ("set", self.random.choice(known), self.expr(depth))
        if word == "if":
            other = self.body(depth) if self.random.randrange(2) else None
            return ("if", self.expr(depth), self.body(depth), other)
        if word == "while":
            return ("while", self.expr(depth), self.body(depth))
        if word == "put":
            return ("put", self.expr(depth), self.name(), self.random.choice(KINDS), self.expr(depth))
        if word == "drop":
            return ("drop", self.expr(depth), self.name())
        if word == "assign":
            return ("assign", self.expr(depth), self.name(), self.expr(depth))
        return (word, self.expr(depth))

    def exprs(self, depth):
        return tuple([self.expr(depth - 1) for _ in range(self.random.randrange(3))])

    def expr(self, depth):
        few = ("num", "word", "name")
        word = self.random.choice(few if depth <= 0 else ("op",) * 5 + few + (
            "own", "resend", "send", "send", "call", "object", "fn", "fn"))
        if word == "num":
            return ("num", self.random.choice((0, 1, 10 ** 12)))
        if word == "word":
            return (self.random.choice(("true", "false", "nothing", "self")),)
        if word == "name":
            return ("name", self.name())
        if word in ("own", "resend"):
            return (word, self.name(), self.exprs(depth))
        if word == "send":
            return ("send", self.expr(depth - 1), self.name(), self.exprs(depth))
        if word == "call":
            return ("call", self.expr(depth - 1), self.exprs(depth))
        if word == "object":
            return ("object", self.slots(depth))
        if word == "fn":
            return ("fn", *self.code(depth))
        return ("op", self.random.choice(SIGNS), self.expr(depth - 1), self.expr(depth - 1))
