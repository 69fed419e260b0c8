"""The forms of the rows of plain code.

For each first word there are the forms of the parts behind it:

    value    what a push pushes            count    a number from 0 on
    place    the number of a local         depth    a number from 1 on
    code     the index of a code           target   the index of a row
    name     the name of a slot            kind     the kind of a slot
    sign     an operator                   pairs    pairs of a name and a kind
"""

from reaimed.objects import KINDS
from reaimed.tokens import LARGEST, is_name

SIGNS = ("==", "<", "<=", "+", "-", "*", "div", "mod")
WORD_VALUES = ("true", "false", "nothing")
FORMS = {
    "push": ("value",),
    "self": (),
    "local": ("place",),
    "set": ("place",),
    "outer": ("depth", "count"),
    "setouter": ("depth", "count"),
    "pop": (),
    "send": ("name", "count"),
    "resend": ("name", "count"),
    "call": ("count",),
    "assign": ("name",),
    "put": ("name", "kind"),
    "drop": ("name",),
    "object": ("pairs",),
    "method": ("code",),
    "block": ("code",),
    "return": (),
    "home": (),
    "jump": ("target",),
    "jumpno": ("target",),
    "prim": ("sign",),
    "print": (),
}


def is_count(part):
    """Tell whether a part is an integer from 0 on; True and False are none."""
    return isinstance(part, int) and not isinstance(part, bool) and part >= 0


def is_right_row(row, bounds):
    """Tell whether a row has one of the forms.

    The bounds are a dict; the numbers of the forms in it are less than theirs.
    """
    if not isinstance(row, tuple) or len(row) == 0:
        return False
    word = row[0]
    if not isinstance(word, str) or word not in FORMS:
        return False
    forms = FORMS[word]
    if len(row) != 1 + len(forms):
        return False
    return all([is_right_part(form, part, bounds) for form, part in zip(forms, row[1:])])


def is_right_part(form, part, bounds):
    """Tell whether a part of a row has a form."""
    if form in bounds:
        return is_count(part) and part < bounds[form]
    if form == "count":
        return is_count(part)
    if form == "depth":
        return is_count(part) and part >= 1
    if form == "name":
        return is_slot_name(part)
    if form == "kind":
        return part in KINDS
    if form == "sign":
        return part in SIGNS
    if form == "value":
        return is_right_value(part)
    return isinstance(part, tuple) and all([is_right_pair(pair) for pair in part])


def is_slot_name(part):
    """Tell whether a part is a name of the language."""
    return isinstance(part, str) and is_name(part)


def is_right_pair(pair):
    """Tell whether a part of an object's row is a pair of a name and a kind."""
    return isinstance(pair, tuple) and len(pair) == 2 and is_slot_name(pair[0]) and pair[1] in KINDS


def is_right_value(part):
    """Tell whether a part is a value that a push may have."""
    if not isinstance(part, tuple):
        return False
    if len(part) == 1:
        return part[0] in WORD_VALUES
    return len(part) == 2 and part[0] == "num" and is_count(part[1]) and part[1] <= LARGEST
