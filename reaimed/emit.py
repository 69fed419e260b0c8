"""Emitting: from trees to plain code.

Everything is emitted from left to right, so each code gets its number when its
text begins.
"""

from reaimed.names import Names, operands
from reaimed.parser import parse
from reaimed.scopes import check_scopes

MAIN = 0
SELF = ("self",)
RETURN = ("return",)
HOME = ("home",)
PUSH_NOTHING = ("push", ("nothing",))


class Draft:
    """A code that is being written, among all codes of its program."""

    def __init__(self, codes, outer, params):
        self.codes = codes
        self.number = len(codes)
        # The place is taken at once: codes within this one get later numbers.
        codes.append(None)
        self.params = len(params)
        self.names = Names(outer)
        for param in params:
            self.names.give(param)
        self.rows = []

    def add_row(self, row):
        """Write a row behind the others."""
        self.rows.append(row)

    def here(self):
        """Return the index of the row that will be written next."""
        return len(self.rows)

    def leave_row(self):
        """Leave a row empty that will be filled, and return its index."""
        self.rows.append(None)
        return len(self.rows) - 1

    def fill_row(self, index, row):
        """Write a row that was left empty."""
        self.rows[index] = row

    def is_block(self):
        """Tell whether the code is that of a block."""
        return self.names.outer is not None

    def finish(self):
        """Write the return at the end, and put the code into its place; return its number."""
        self.add_row(RETURN)
        captured = any([row[0] == "block" for row in self.rows])
        self.codes[self.number] = (self.params, self.names.many, captured, tuple(self.rows))
        return self.number


def compile_text(text):
    """Return the code of a text."""
    program = parse(text)
    check_scopes(program)
    return emit(program)


def emit(program):
    """Return the code of a program whose names are right."""
    items, body = program
    codes = []
    draft = Draft(codes, None, ())
    for item in items:
        emit_item(draft, item)
    emit_statements(draft, body)
    draft.add_row(PUSH_NOTHING)
    draft.finish()
    return (tuple(codes), MAIN)


def emit_item(draft, item):
    """Write the rows that put an item into the lobby, which is the self of main."""
    draft.add_row(SELF)
    if item[0] == "method":
        emit_method(draft, item)
        draft.add_row(("put", item[1], "method"))
    else:
        emit_object(draft, item[2])
        draft.add_row(("put", item[1], "const"))


def emit_method(draft, method):
    """Write the code of a method, and the row that pushes it."""
    _, _, params, body = method
    inner = Draft(draft.codes, None, params)
    emit_statements(inner, body)
    inner.add_row(PUSH_NOTHING)
    draft.add_row(("method", inner.finish()))


def emit_block(draft, params, body):
    """Write the code of a block, and the row that pushes it."""
    inner = Draft(draft.codes, draft.names, params)
    if len(body) > 0 and body[-1][0] == "expr":
        emit_statements(inner, body[:-1])
        emit_expr(inner, body[-1][1])
    else:
        emit_statements(inner, body)
        inner.add_row(PUSH_NOTHING)
    draft.add_row(("block", inner.finish()))


def emit_object(draft, slots):
    """Write the rows that make an object."""
    for slot in slots:
        if slot[0] == "method":
            emit_method(draft, slot)
        else:
            emit_expr(draft, slot[2])
    draft.add_row(("object", tuple([(slot[1], slot[0]) for slot in slots])))


def emit_body(draft, body):
    """Write the rows of a body within another one of the same code."""
    draft.names.begin_body()
    emit_statements(draft, body)
    draft.names.end_body()


def emit_statements(draft, body):
    """Write the rows of statements in order."""
    for statement in body:
        emit_statement(draft, statement)


def emit_statement(draft, statement):
    """Write the rows of one statement."""
    match statement:
        case ("let", name, value):
            emit_expr(draft, value)
            draft.add_row(("set", draft.names.give(name)))
        case ("set", name, value):
            emit_expr(draft, value)
            emit_place(draft, draft.names.place_of(name), "set", "setouter")
        case ("print", value):
            emit_expr(draft, value)
            draft.add_row(("print",))
        case ("return", value):
            emit_expr(draft, value)
            draft.add_row(HOME if draft.is_block() else RETURN)
        case ("if", condition, body, other):
            emit_if(draft, condition, body, other)
        case ("while", condition, body):
            emit_while(draft, condition, body)
        case ("put", target, name, aim, value):
            emit_expr(draft, target)
            emit_expr(draft, value)
            draft.add_row(("put", name, aim))
        case ("drop", target, name):
            emit_expr(draft, target)
            draft.add_row(("drop", name))
        case ("assign", target, name, value):
            emit_expr(draft, target)
            emit_expr(draft, value)
            draft.add_row(("assign", name))
        case ("expr", value):
            emit_expr(draft, value)
            draft.add_row(("pop",))


def emit_if(draft, condition, body, other):
    """Write the rows of an if, with its else if there is one."""
    emit_expr(draft, condition)
    test = draft.leave_row()
    emit_body(draft, body)
    if other is None:
        draft.fill_row(test, ("jumpno", draft.here()))
        return
    skip = draft.leave_row()
    draft.fill_row(test, ("jumpno", draft.here()))
    emit_body(draft, other)
    draft.fill_row(skip, ("jump", draft.here()))


def emit_while(draft, condition, body):
    """Write the rows of a while."""
    start = draft.here()
    emit_expr(draft, condition)
    test = draft.leave_row()
    emit_body(draft, body)
    draft.add_row(("jump", start))
    draft.fill_row(test, ("jumpno", draft.here()))


def emit_place(draft, place, near, far):
    """Write the row of a local: one word if it is of this code, the other one if of an outer code."""
    depth, number = place
    if depth == 0:
        draft.add_row((near, number))
    else:
        draft.add_row((far, depth, number))


def emit_expr(draft, expr):
    """Write the rows of an expression, which leave its value."""
    if expr[0] == "own":
        draft.add_row(SELF)
    for operand in operands(expr):
        emit_expr(draft, operand)
    match expr:
        case ("num", _):
            draft.add_row(("push", expr))
        case ("self",):
            draft.add_row(SELF)
        case (_,):
            draft.add_row(("push", expr))
        case ("name", name):
            emit_name(draft, name)
        case ("own", name, args):
            draft.add_row(("send", name, len(args)))
        case ("send", _, name, args):
            draft.add_row(("send", name, len(args)))
        case ("resend", name, args):
            draft.add_row(("resend", name, len(args)))
        case ("call", _, args):
            draft.add_row(("call", len(args)))
        case ("op", sign, _, _):
            draft.add_row(("prim", sign))
        case ("object", slots):
            emit_object(draft, slots)
        case ("fn", params, body):
            emit_block(draft, params, body)


def emit_name(draft, name):
    """Write the rows of a name: a local, or a send to self."""
    place = draft.names.place_of(name)
    if place is None:
        draft.add_row(SELF)
        draft.add_row(("send", name, 0))
    else:
        emit_place(draft, place, "local", "outer")
