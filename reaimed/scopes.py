"""The check of the names of a program.

Everything is examined from left to right, so the error that is raised is the
first one of the text.
"""

from reaimed.errors import DoubleName, UnknownName
from reaimed.names import Names, operands


def check_scopes(program):
    """Raise the error of the first name of a program that is double or unknown."""
    items, body = program
    names = Names(None)
    given = {}
    for item in items:
        take_name(given, item[1])
        if item[0] == "method":
            check_method(item)
        else:
            check_slots(names, item[2])
    check_statements(names, body)


def take_name(given, name):
    """Add a name to those that were given; a second one is double."""
    if name in given:
        raise DoubleName(name)
    given[name] = True


def check_method(method):
    """Examine a method, which sees none of the locals around it."""
    _, _, params, body = method
    check_code_text(None, params, body)


def check_code_text(outer, params, body):
    """Examine the parameters and the body of a method or a block."""
    names = Names(outer)
    for param in params:
        give_name(names, param)
    check_statements(names, body)


def give_name(names, name):
    """Make a name a local from here on."""
    refuse_double(names, name)
    names.give(name)


def refuse_double(names, name):
    """Raise an error if the innermost body has a name already."""
    if names.is_taken(name):
        raise DoubleName(name)


def check_slots(names, slots):
    """Examine the slots of an object."""
    given = {}
    for slot in slots:
        take_name(given, slot[1])
        if slot[0] == "method":
            check_method(slot)
        else:
            check_expr(names, slot[2])


def check_body(names, body):
    """Examine a body within another one of the same code."""
    names.begin_body()
    check_statements(names, body)
    names.end_body()


def check_statements(names, body):
    """Examine statements in order."""
    for statement in body:
        check_statement(names, statement)


def check_statement(names, statement):
    """Examine one statement."""
    match statement:
        case ("let", name, value):
            refuse_double(names, name)
            # The name is given behind its expression, which does not see it.
            check_expr(names, value)
            names.give(name)
        case ("set", name, value):
            if names.place_of(name) is None:
                raise UnknownName(name)
            check_expr(names, value)
        case ("if", condition, body, other):
            check_expr(names, condition)
            check_body(names, body)
            if other is not None:
                check_body(names, other)
        case ("while", condition, body):
            check_expr(names, condition)
            check_body(names, body)
        case ("put", target, _, _, value):
            check_expr(names, target)
            check_expr(names, value)
        case ("assign", target, _, value):
            check_expr(names, target)
            check_expr(names, value)
        case ("drop", target, _):
            check_expr(names, target)
        case (_, value):
            check_expr(names, value)


def check_expr(names, expr):
    """Examine an expression."""
    for operand in operands(expr):
        check_expr(names, operand)
    if expr[0] == "object":
        check_slots(names, expr[1])
    if expr[0] == "fn":
        check_code_text(names, expr[1], expr[2])
