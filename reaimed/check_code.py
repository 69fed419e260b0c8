"""The check that a value is a program of plain code."""

from reaimed.errors import BadCode
from reaimed.rows import is_count, is_right_row

WHOLE = -1
UNREACHED = -1
# How many values a row pops and pushes, where its first word alone tells it.
EFFECTS = {
    "push": (0, 1),
    "self": (0, 1),
    "local": (0, 1),
    "set": (1, 0),
    "outer": (0, 1),
    "setouter": (1, 0),
    "pop": (1, 0),
    "assign": (2, 0),
    "put": (2, 0),
    "drop": (1, 0),
    "method": (0, 1),
    "block": (0, 1),
    "return": (1, 0),
    "home": (1, 0),
    "jump": (0, 0),
    "jumpno": (1, 0),
    "prim": (2, 1),
    "print": (1, 0),
}


def check_code(code):
    """Raise an error with the index of the first code that is wrong, or -1 for the whole."""
    if not is_whole(code):
        raise BadCode(WHOLE)
    codes, _ = code
    for index, one in enumerate(codes):
        if not is_right_code(one, len(codes)):
            raise BadCode(index)


def is_whole(code):
    """Tell whether a value is a tuple of codes and the index of one without parameters."""
    if not isinstance(code, tuple) or len(code) != 2:
        return False
    codes, main = code
    if not isinstance(codes, tuple) or not is_count(main) or main >= len(codes):
        return False
    first = codes[main]
    if not isinstance(first, tuple) or len(first) == 0:
        return False
    return is_count(first[0]) and first[0] == 0


def is_right_code(one, many):
    """Tell whether one of so many codes is right."""
    if not isinstance(one, tuple) or len(one) != 4:
        return False
    params, places, captured, rows = one
    if not is_count(params) or not is_count(places) or places < params:
        return False
    if not isinstance(captured, bool) or not isinstance(rows, tuple) or len(rows) == 0:
        return False
    bounds = {"place": places, "target": len(rows), "code": many}
    if not all([is_right_row(row, bounds) for row in rows]):
        return False
    if captured != any([row[0] == "block" for row in rows]):
        return False
    return found_heights(rows) is not None


def heights(rows):
    """Return the list of the heights of the rows of a right code, -1 where none comes."""
    return found_heights(rows)


def found_heights(rows):
    """Return the list of the heights of rows that have right forms, or None if they have none."""
    found = [UNREACHED] * len(rows)
    found[0] = 0
    waiting = [0]
    while len(waiting) > 0:
        at = waiting.pop()
        pops, pushes = effect(rows[at])
        if found[at] < pops:
            return None
        height = found[at] - pops + pushes
        for following in rows_behind(rows, at):
            if following == len(rows):
                return None
            if found[following] == UNREACHED:
                found[following] = height
                waiting.append(following)
            elif found[following] != height:
                return None
    return found


def effect(row):
    """Return how many values a row pops, and how many it pushes then."""
    word = row[0]
    if word == "object":
        return (len(row[1]), 1)
    if word == "resend":
        return (row[2], 1)
    if word == "send" or word == "call":
        # The receiver, or the block, lies below the arguments.
        return (row[-1] + 1, 1)
    return EFFECTS[word]


def rows_behind(rows, at):
    """Return the indexes of the rows that may come behind a row; one may be that of the end."""
    word = rows[at][0]
    if word == "return" or word == "home":
        return ()
    if word == "jump":
        return (rows[at][1],)
    if word == "jumpno":
        return (at + 1, rows[at][1])
    return (at + 1,)
