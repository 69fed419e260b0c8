"""The parser: from texts to trees.

Each function reads one part of the grammar and leaves the cursor behind it.
Nothing is read before it is known to be right, so the token that is refused
is always the first one that the grammar does not allow.
"""

from reaimed.cursor import Cursor

COMPARISON = 1
LEVELS = {"==": 1, "<": 1, "<=": 1, "+": 2, "-": 2, "*": 3, "div": 3, "mod": 3}
CONSTANTS = ("true", "false", "nothing", "self")
AIMS = ("const", "var", "parent")


def parse(text):
    """Return the tree of a program."""
    cursor = Cursor(text)
    items = []
    while not cursor.took("main"):
        items.append(parse_item(cursor))
    body = parse_body(cursor)
    cursor.want_end()
    return (tuple(items), body)


def parse_expr(text):
    """Return the tree of a text that is one expression."""
    cursor = Cursor(text)
    tree = parse_whole(cursor)
    cursor.want_end()
    return tree


def parse_item(cursor):
    """Read an object or a method that stands before main."""
    if cursor.took("object"):
        name = cursor.take_name()
        return ("object", name, parse_slots(cursor))
    return parse_method(cursor)


def parse_method(cursor):
    """Read a method, which is written alike as an item and as a slot."""
    cursor.want("method")
    name = cursor.take_name()
    params = parse_row(cursor, parse_name)
    return ("method", name, params, parse_body(cursor))


def parse_row(cursor, parse_part):
    """Read parts between parentheses, with commas between them."""
    cursor.want("(")
    if cursor.took(")"):
        return ()
    parts = [parse_part(cursor)]
    while cursor.took(","):
        parts.append(parse_part(cursor))
    cursor.want(")")
    return tuple(parts)


def parse_name(cursor):
    """Read a name."""
    return cursor.take_name()


def parse_slots(cursor):
    """Read the slots of an object with their braces."""
    cursor.want("{")
    slots = []
    while not cursor.took("}"):
        slots.append(parse_slot(cursor))
    return tuple(slots)


def parse_slot(cursor):
    """Read one slot."""
    if cursor.word() == "method":
        return parse_method(cursor)
    aim = "const"
    if cursor.word() in AIMS:
        aim = parse_aim(cursor)
    name = cursor.take_name()
    cursor.want("=")
    return (aim, name, parse_ended(cursor))


def parse_aim(cursor):
    """Read the aim of a slot and return its kind."""
    if cursor.took("const"):
        return "const"
    if cursor.took("parent"):
        return "parent"
    cursor.want("var")
    if cursor.took("parent"):
        return "varparent"
    return "var"


def parse_body(cursor):
    """Read statements with their braces."""
    cursor.want("{")
    statements = []
    while not cursor.took("}"):
        statements.append(parse_statement(cursor))
    return tuple(statements)


def parse_statement(cursor):
    """Read one statement."""
    word = cursor.word()
    if word in STATEMENTS:
        cursor.take()
        parse_rest = STATEMENTS[word]
        return parse_rest(cursor)
    if cursor.kind() == "name" and cursor.word(1) == ":=":
        return parse_set(cursor)
    first = parse_postfix(cursor)
    if cursor.took("."):
        return parse_assign(cursor, first)
    tree = parse_operators(cursor, first, COMPARISON)
    cursor.want(";")
    return ("expr", tree)


def parse_set(cursor):
    """Read an assignment to a local name."""
    name = cursor.take_name()
    cursor.want(":=")
    return ("set", name, parse_ended(cursor))


def parse_assign(cursor, target):
    """Read what follows the dot of an assignment to a slot."""
    name = cursor.take_name()
    cursor.want(":=")
    return ("assign", target, name, parse_ended(cursor))


def parse_let(cursor):
    """Read what follows let."""
    name = cursor.take_name()
    cursor.want("=")
    return ("let", name, parse_ended(cursor))


def parse_print(cursor):
    """Read what follows print."""
    return ("print", parse_ended(cursor))


def parse_return(cursor):
    """Read what follows return."""
    return ("return", parse_ended(cursor))


def parse_if(cursor):
    """Read what follows if."""
    condition = parse_whole(cursor)
    body = parse_body(cursor)
    other = None
    if cursor.took("else"):
        other = parse_body(cursor)
    return ("if", condition, body, other)


def parse_while(cursor):
    """Read what follows while."""
    condition = parse_whole(cursor)
    return ("while", condition, parse_body(cursor))


def parse_put(cursor):
    """Read what follows put."""
    target = parse_postfix(cursor)
    cursor.want(".")
    name = cursor.take_name()
    aim = parse_aim(cursor)
    cursor.want("=")
    return ("put", target, name, aim, parse_ended(cursor))


def parse_drop(cursor):
    """Read what follows drop."""
    target = parse_postfix(cursor)
    cursor.want(".")
    name = cursor.take_name()
    cursor.want(";")
    return ("drop", target, name)


def parse_ended(cursor):
    """Read an expression and the semicolon behind it."""
    tree = parse_whole(cursor)
    cursor.want(";")
    return tree


def parse_whole(cursor):
    """Read an expression."""
    return parse_operators(cursor, parse_postfix(cursor), COMPARISON)


def parse_operators(cursor, left, level):
    """Read the operators of at least this level that follow a first operand."""
    while LEVELS.get(cursor.word(), 0) >= level:
        sign = cursor.take()
        higher = LEVELS[sign] + 1
        right = parse_operators(cursor, parse_postfix(cursor), higher)
        left = ("op", sign, left, right)
        # A sum has at most one comparison, so a second one is left to be refused.
        if LEVELS[sign] == COMPARISON:
            return left
    return left


def parse_postfix(cursor):
    """Read a primary with the sends and calls that follow it."""
    tree = parse_primary(cursor)
    while has_own_dot(cursor):
        cursor.want(".")
        word = cursor.take()
        args = parse_row(cursor, parse_whole)
        if word == "call":
            tree = ("call", tree, args)
        else:
            tree = ("send", tree, word, args)
    return tree


def has_own_dot(cursor):
    """Tell whether a dot comes next that belongs to the postfix before it."""
    if cursor.word() != ".":
        return False
    if cursor.kind(1) != "name" and cursor.word(1) != "call":
        return False
    return cursor.word(2) == "("


def parse_primary(cursor):
    """Read an expression without operators and dots."""
    if cursor.kind() == "number":
        return ("num", int(cursor.take()))
    if cursor.word() in CONSTANTS:
        return (cursor.take(),)
    if cursor.took("("):
        tree = parse_whole(cursor)
        cursor.want(")")
        return tree
    if cursor.took("object"):
        return ("object", parse_slots(cursor))
    if cursor.took("fn"):
        params = parse_row(cursor, parse_name)
        return ("fn", params, parse_body(cursor))
    if cursor.took("resend"):
        name = cursor.take_name()
        return ("resend", name, parse_row(cursor, parse_whole))
    name = cursor.take_name()
    if cursor.word() == "(":
        return ("own", name, parse_row(cursor, parse_whole))
    return ("name", name)


STATEMENTS = {
    "let": parse_let,
    "print": parse_print,
    "return": parse_return,
    "if": parse_if,
    "while": parse_while,
    "put": parse_put,
    "drop": parse_drop,
}
