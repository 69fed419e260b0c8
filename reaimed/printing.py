"""Printing: from trees to texts, in the one form of point 1.9."""

from reaimed.parser import COMPARISON, LEVELS

HIGHEST = 4
AIM_WORDS = {"const": "const", "var": "var", "parent": "parent", "varparent": "var parent"}


def print_program(program):
    """Return the text of a program: a row for each item, and one for main."""
    items, body = program
    rows = [print_item(item) + "\n" for item in items]
    return "".join(rows) + f"main {print_body(body)}\n"


def print_item(item):
    """Return the text of an object or a method that stands before main."""
    if item[0] == "method":
        return print_method(item)
    return f"object {item[1]} {print_slots(item[2])}"


def print_method(method):
    """Return the text of a method, which is written alike as an item and as a slot."""
    _, name, params, body = method
    return f"method {name}{print_row(params)} {print_body(body)}"


def print_slots(slots):
    """Return the text of the slots of an object with their braces."""
    return print_braces([print_slot(slot) for slot in slots])


def print_slot(slot):
    """Return the text of one slot."""
    if slot[0] == "method":
        return print_method(slot)
    kind, name, value = slot
    text = f"{name} = {print_expr(value)};"
    if kind == "const":
        return text
    return f"{AIM_WORDS[kind]} {text}"


def print_body(body):
    """Return the text of statements with their braces."""
    return print_braces([print_statement(statement) for statement in body])


def print_braces(texts):
    """Return texts between braces."""
    return " ".join(["{"] + texts + ["}"])


def print_row(texts):
    """Return texts between parentheses, with commas between them."""
    return "(" + ", ".join(texts) + ")"


def print_statement(statement):
    """Return the text of a statement, without a newline."""
    match statement:
        case ("let", name, value):
            return f"let {name} = {print_expr(value)};"
        case ("set", name, value):
            return f"{name} := {print_expr(value)};"
        case ("if", condition, body, other):
            return print_if(condition, body, other)
        case ("while", condition, body):
            return f"while {print_expr(condition)} {print_body(body)}"
        case ("put", target, name, aim, value):
            return f"put {print_receiver(target)}.{name} {AIM_WORDS[aim]} = {print_expr(value)};"
        case ("drop", target, name):
            return f"drop {print_receiver(target)}.{name};"
        case ("assign", target, name, value):
            return f"{print_receiver(target)}.{name} := {print_expr(value)};"
        case ("expr", value):
            return f"{print_expr(value)};"
        case (word, value):
            return f"{word} {print_expr(value)};"


def print_if(condition, body, other):
    """Return the text of an if, with its else if there is one."""
    text = f"if {print_expr(condition)} {print_body(body)}"
    if other is None:
        return text
    return f"{text} else {print_body(other)}"


def print_expr(expr):
    """Return the text of an expression."""
    match expr:
        case ("num", number):
            return str(number)
        case ("name", name):
            return name
        case ("own", name, args):
            return f"{name}{print_args(args)}"
        case ("resend", name, args):
            return f"resend {name}{print_args(args)}"
        case ("send", receiver, name, args):
            return f"{print_receiver(receiver)}.{name}{print_args(args)}"
        case ("call", receiver, args):
            return f"{print_receiver(receiver)}.call{print_args(args)}"
        case ("object", slots):
            return f"object {print_slots(slots)}"
        case ("fn", params, body):
            return f"fn{print_row(params)} {print_body(body)}"
        case ("op", sign, first, second):
            return print_operator(sign, first, second)
        case (word,):
            return word


def print_args(args):
    """Return the text of arguments with their parentheses."""
    return print_row([print_expr(arg) for arg in args])


def print_receiver(expr):
    """Return the text of an expression before a dot."""
    return print_at(expr, HIGHEST)


def print_operator(sign, first, second):
    """Return the text of an operator with its operands."""
    level = LEVELS[sign]
    # Comparisons do not stand in a row, so even on the left one needs parentheses.
    left = max(level, COMPARISON + 1)
    return f"{print_at(first, left)} {sign} {print_at(second, level + 1)}"


def print_at(expr, need):
    """Return the text of an expression at a place that needs a level."""
    text = print_expr(expr)
    if level_of(expr) < need:
        return f"({text})"
    return text


def level_of(expr):
    """Return the level of an expression."""
    if expr[0] == "op":
        return LEVELS[expr[1]]
    return HIGHEST
