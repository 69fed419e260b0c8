"""A slow way to run a tree: by functions that call themselves, without code, frames and rows.

It tells what a program prints and how it ends, for programs that run a short time.
"""

import sys

from reaimed.prims import prim

NOTHING = ("nothing",)


class TooLong(Exception):
    """The program has done more than it may."""


class Failed(Exception):
    """An error of the program; its word is the first argument."""


class Home(Exception):
    """A return out of the frame of a method: the frame and the value."""


class Frame:
    """The places of one run of a method or block; the home is the frame of the method."""

    def __init__(self, self_value, holder, home, names, outer):
        self.self_value, self.holder = self_value, holder
        self.home = home or self
        self.open = True
        self.places = {}
        self.rows = [names]
        self.outer = outer

    def find(self, name):
        """The frame and the place of a name, or None."""
        for names in reversed(self.rows):
            if name in names:
                return self, names[name]
        return None if self.outer is None else self.outer.find(name)

    def copy(self):
        """The same places, with the names that can be used now: for a block that is made now."""
        other = Frame.__new__(Frame)
        other.__dict__.update(self.__dict__)
        other.rows = [dict(names) for names in self.rows]
        return other


class Tree:
    def __init__(self, program, most=3000):
        items, body = program
        self.prints, self.end, self.left = [], None, most
        self.objects = [{}]
        self.objects[0]["lobby"] = ("const", ("ref", 0))
        self.methods, self.blocks = {}, []
        frame = Frame(("ref", 0), 0, None, {}, None)
        sys.setrecursionlimit(20000)
        try:
            for item in items:
                if item[0] == "method":
                    self.objects[0][item[1]] = ("method", self.method(item))
                else:
                    self.objects[0][item[1]] = ("const", self.object(item[2], frame))
            self.run_body(body, frame)
            self.end = ("done",)
        except Home:
            self.end = ("done",)
        except Failed as error:
            self.end = ("error", error.args[0])

    def method(self, tree):
        self.methods.setdefault(id(tree), tree)
        return ("method", id(tree))

    def object(self, slots, frame):
        made = {}
        for slot in slots:
            if slot[0] == "method":
                made[slot[1]] = ("method", self.method(slot))
            else:
                made[slot[1]] = (slot[0], self.value(slot[2], frame))
        self.objects.append(made)
        return ("ref", len(self.objects) - 1)

    def holders(self, starts, name):
        found, seen = [], set()

        def look(number):
            if number not in seen:
                seen.add(number)
                if name in self.objects[number]:
                    found.append(number)
                else:
                    for kind, value in self.objects[number].values():
                        if kind in ("parent", "varparent") and value[0] == "ref":
                            look(value[1])

        for start in starts:
            look(start)
        if len(found) != 1:
            raise Failed("several" if found else "none")
        return found[0]

    def found(self, self_value, starts, name, args):
        holder = self.holders(starts, name)
        kind, value = self.objects[holder][name]
        if kind == "method" and value[0] == "method":
            _, _, params, body = self.methods[value[1]]
            if len(params) != len(args):
                raise Failed("arguments")
            return self.run_code(Frame(self_value, holder, None, {}, None), params, args, body)
        if args:
            raise Failed("arguments")
        return value

    def run_code(self, frame, params, args, body):
        for name, value in zip(params, args):
            frame.rows[0][name] = name
            frame.places[name] = value
        try:
            self.run_body(body, frame)
        except Home as home:
            if home.args[0] is not frame.places:
                raise
            return home.args[1]
        finally:
            frame.home.open = frame.home.open and frame.home is not frame
        return NOTHING

    def call(self, value, args):
        if value[0] != "block":
            raise Failed("block")
        (_, params, body), maker = self.blocks[value[1]]
        if len(params) != len(args):
            raise Failed("arguments")
        frame = Frame(maker.self_value, maker.holder, maker.home, {}, maker)
        for name, given in zip(params, args):
            frame.rows[0][name] = name
            frame.places[name] = given
        last = NOTHING
        for at, statement in enumerate(body):
            if at == len(body) - 1 and statement[0] == "expr":
                last = self.value(statement[1], frame)
            else:
                self.run(statement, frame)
        return last

    def run_body(self, body, frame):
        for statement in body:
            self.run(statement, frame)

    def run_inner(self, body, frame):
        frame.rows.append({})
        self.run_body(body, frame)
        frame.rows.pop()

    def truth(self, tree, frame):
        value = self.value(tree, frame)
        if value not in (("true",), ("false",)):
            raise Failed("truth")
        return value == ("true",)

    def run(self, tree, frame):
        word = tree[0]
        self.left -= 1
        if self.left < 0:
            raise TooLong()
        if word == "let":
            value = self.value(tree[2], frame)
            frame.rows[-1][tree[1]] = id(tree)
            frame.places[id(tree)] = value
        elif word == "set":
            value = self.value(tree[2], frame)
            owner, place = frame.find(tree[1])
            owner.places[place] = value
        elif word == "print":
            self.prints.append(self.value(tree[1], frame))
        elif word == "return":
            value = self.value(tree[1], frame)
            if not frame.home.open:
                raise Failed("gone")
            raise Home(frame.home.places, value)
        elif word == "if":
            body = tree[2] if self.truth(tree[1], frame) else tree[3]
            self.run_inner(body or (), frame)
        elif word == "while":
            while self.truth(tree[1], frame):
                self.run_inner(tree[2], frame)
        elif word in ("put", "drop", "assign"):
            self.change(tree, frame)
        else:
            self.value(tree[1], frame)

    def change(self, tree, frame):
        receiver = self.value(tree[1], frame)
        if tree[0] == "assign":
            value = self.value(tree[3], frame)
            holder = self.holders([receiver[1]] if receiver[0] == "ref" else [], tree[2])
            kind, _ = self.objects[holder][tree[2]]
            if kind not in ("var", "varparent"):
                raise Failed("constant")
            self.objects[holder][tree[2]] = (kind, value)
        elif tree[0] == "put":
            value = self.value(tree[4], frame)
            if receiver[0] != "ref":
                raise Failed("none")
            self.objects[receiver[1]][tree[2]] = (tree[3], value)
        else:
            if receiver[0] != "ref" or tree[2] not in self.objects[receiver[1]]:
                raise Failed("none")
            del self.objects[receiver[1]][tree[2]]

    def send(self, receiver, name, args):
        return self.found(receiver, [receiver[1]] if receiver[0] == "ref" else [], name, args)

    def value(self, tree, frame):
        word = tree[0]
        self.left -= 1
        if self.left < 0:
            raise TooLong()
        if word in ("num", "true", "false", "nothing"):
            return tree
        if word == "self":
            return frame.self_value
        if word == "name":
            known = frame.find(tree[1])
            return known[0].places[known[1]] if known else self.send(frame.self_value, tree[1], [])
        if word == "own":
            return self.send(frame.self_value, tree[1], [self.value(part, frame) for part in tree[2]])
        if word == "resend":
            args = [self.value(part, frame) for part in tree[2]]
            slots = self.objects[frame.holder].values()
            starts = [value[1] for kind, value in slots if kind in ("parent", "varparent") and value[0] == "ref"]
            return self.found(frame.self_value, starts, tree[1], args)
        if word == "send":
            receiver = self.value(tree[1], frame)
            return self.send(receiver, tree[2], [self.value(part, frame) for part in tree[3]])
        if word == "call":
            called = self.value(tree[1], frame)
            return self.call(called, [self.value(part, frame) for part in tree[2]])
        if word == "object":
            return self.object(tree[1], frame)
        if word == "fn":
            self.blocks.append((tree, frame.copy()))
            return ("block", len(self.blocks) - 1)
        result = prim(tree[1], self.value(tree[2], frame), self.value(tree[3], frame))
        if result[0] == "error":
            raise Failed(result[1])
        return result
