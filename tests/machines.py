"""What the tests of machines use: short ways to write code, and to let a machine run."""

import unittest

from reaimed.check_code import check_code
from reaimed.emit import compile_text
from reaimed.plain import PlainMachine

NOTHING = ("nothing",)
TRUE = ("true",)
FALSE = ("false",)
ONE = ("num", 1)
TWO = ("num", 2)
LOBBY = ("ref", 0)
LOBBY_SLOT = ("lobby", "const", LOBBY)
END = (("push", NOTHING), ("return",))


def num(number):
    return ("num", number)


def ref(number):
    return ("ref", number)


def push(value):
    """A row that pushes a number or a word."""
    return ("push", num(value) if isinstance(value, int) else (value,))


def method(params, many, *rows):
    """A code with these rows; whether it is captured is found from them."""
    return (params, many, any(row[0] == "block" for row in rows), rows)


def program(*methods, main=0):
    """A program of these codes, which part 2 accepts."""
    code = (methods, main)
    check_code(code)
    return code


class MachineCase(unittest.TestCase):
    """Machines of the class `machine`, which runs plain code."""

    machine = PlainMachine

    def started(self, *methods, many=0, main=0):
        """A machine for these codes, behind so many ticks."""
        machine = self.machine(program(*methods, main=main))
        return self.go(machine, many)

    def text(self, text, many=0):
        return self.go(self.machine(compile_text(text)), many)

    def go(self, machine, many):
        for _ in range(many):
            self.assertIsNone(machine.tick())
        return machine

    def run_whole(self, machine, most=100000):
        while machine.end is None and machine.ticks < most:
            machine.tick()
        self.assertIsNotNone(machine.end)
        return machine

    def prints(self, text):
        """What a text prints until its end, and the end."""
        machine = self.run_whole(self.text(text))
        return [value for _, value in machine.events], machine.end

    def check_text(self, text, *values, end=("done",)):
        """A text prints these values; integers stand for numbers and strings for words."""
        wanted = [num(value) if isinstance(value, int) else (value,) if isinstance(value, str) else value
                  for value in values]
        self.assertEqual(self.prints(text), (wanted, end))
