"""Texts by chance that run for a while: objects with methods that change slots and parents as they go."""

import random

OBJECTS = ("o", "p", "q", "r")
DATA = ("x", "y", "z")
# Methods and how many numbers they take; each returns a number.
METHODS = {"f": 0, "g": 1, "h": 2}


class World:
    """A text for each seed; `text` is the whole of it."""

    def __init__(self, seed):
        self.random = random.Random(seed)
        self.locals = []
        self.blocks = []
        self.deep = 0
        # A resend of a method of the lobby finds nothing, so there is none.
        self.inside = False
        rows = ["method " + name + self.code(many) for name, many in METHODS.items()]
        rows += [self.item(at) for at in range(len(OBJECTS))]
        self.locals, self.blocks, self.inside = [], [], False
        many = self.chance(3, 8)
        body = " ".join(self.statement(3) for _ in range(many))
        starts = " ".join("put self." + name + " var = " + str(at) + ";" for at, name in enumerate(DATA))
        self.text = "\n".join(rows) + "\nmain { " + starts + " let i0 = 0; while i0 < 8 { i0 := i0 + 1; " + body + " } }\n"

    def chance(self, low, high):
        return self.random.randrange(low, high)

    def one(self, *things):
        return self.random.choice(things)

    def item(self, at):
        self.inside = True
        before = ("lobby",) + OBJECTS[:at]
        slots = [self.one("parent", "var parent", "var parent") + " up = " + self.one(*before) + ";"]
        if self.chance(0, 5) == 0:
            slots.append(self.one("parent", "var parent") + " also = " + self.one(*before) + ";")
        for name in DATA:
            if self.chance(0, 3) == 0:
                slots.append(self.one("var ", "var ", "var ", "var ", "const ") + name + " = " + str(self.chance(0, 9)) + ";")
        for name, many in METHODS.items():
            if self.chance(0, 3) == 0:
                slots.append("method " + name + self.code(many))
        return "object " + OBJECTS[at] + " { " + " ".join(slots) + " }"

    def code(self, many):
        params = list("ab"[:many])
        self.locals, self.blocks = list(params), []
        rows = [self.statement(2) for _ in range(self.chance(0, 3))]
        text = "(" + ", ".join(params) + ") { " + " ".join(rows) + " return " + self.number(2) + "; }"
        return text

    def within(self, depth):
        """A body, whose names are forgotten behind it."""
        names, blocks = list(self.locals), list(self.blocks)
        rows = [self.statement(depth - 1) for _ in range(self.chance(1, 3))]
        self.locals, self.blocks = names, blocks
        return "{ " + " ".join(rows) + " }"

    def statement(self, depth):
        word = self.one("print", "let", "set", "if", "put", "drop", "assign", "up", "block", "call", "expr", "expr", "object")
        if word == "let":
            name = "n" + str(len(self.locals))
            text = "let " + name + " = " + self.number(depth) + ";"
            self.locals.append(name)
            return text
        if word == "set" and self.locals:
            return self.one(*self.locals) + " := " + self.number(depth) + ";"
        if word == "if" and depth > 0:
            other = " else " + self.within(depth) if self.chance(0, 2) else ""
            return "if " + self.number(1) + self.one(" < ", " <= ", " == ") + self.number(1) + " " + self.within(depth) + other
        if word == "put":
            return "put " + self.object() + "." + self.slot(depth)
        if word == "drop" and self.chance(0, 3) == 0:
            return "drop " + self.one(*OBJECTS) + "." + self.one(*DATA, *METHODS) + ";"
        if word == "assign":
            return self.object() + "." + self.one(*DATA) + " := " + self.number(depth) + ";"
        if word == "up" and self.chance(0, 3) == 0:
            return self.one(*OBJECTS) + ".up := " + self.one("lobby", "lobby", *OBJECTS) + ";"
        if word == "block" and depth > 0 and self.deep < 2:
            return self.block(depth)
        if word == "call" and self.blocks:
            return "print " + self.one(*self.blocks) + ".call(" + self.number(1) + ");"
        if word == "object":
            return "print object { var parent up = " + self.object() + "; var x = 1; }." + self.send(1) + ";"
        return self.one("print ", "") + self.number(depth) + ";"

    def slot(self, depth):
        if self.chance(0, 6) == 0:
            return "up var parent = " + self.one("lobby", *OBJECTS) + ";"
        return self.one(*DATA) + self.one(" var", " var", " var", " var", " const") + " = " + self.number(depth) + ";"

    def block(self, depth):
        name = "k" + str(self.deep) + "_" + str(len(self.blocks))
        names, blocks = list(self.locals), list(self.blocks)
        self.deep += 1
        self.locals.append("c" + str(self.deep))
        rows = [self.statement(depth - 1) for _ in range(self.chance(0, 2))]
        if self.chance(0, 5) == 0:
            rows.append("if " + self.number(0) + " < " + self.number(0) + " { return " + self.number(0) + "; }")
        text = "let " + name + " = fn (" + "c" + str(self.deep) + ") { " + " ".join(rows) + " " + self.number(1) + "; };"
        self.deep -= 1
        self.locals, self.blocks = names, blocks
        self.blocks.append(name)
        return text

    def object(self):
        return self.one("self", "lobby", *OBJECTS)

    def send(self, depth):
        name = self.one(*DATA, *METHODS)
        return name + "(" + ", ".join(self.number(depth - 1) for _ in range(METHODS.get(name, 0))) + ")"

    def number(self, depth):
        word = self.one("number", "local", "local", "send", "send", "op", "resend") if depth > 0 else "local"
        if word == "send":
            return self.object() + "." + self.send(depth)
        if word == "resend" and self.inside:
            return "resend " + self.send(depth)
        if word == "op":
            return "(" + self.number(depth - 1) + self.one(" + ", " - ", " * ", " - ") + self.number(depth - 1) + ")"
        if word == "local" and self.locals:
            return self.one(*self.locals)
        return str(self.chance(0, 10))


def world_text(seed):
    return World(seed).text
