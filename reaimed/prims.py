"""Prims: what the operators do."""

LARGEST_RESULT = 1000000000000000
COMPARISONS = ("<", "<=")
DIVISIONS = ("div", "mod")


def prim(sign, first, second):
    """Return the value of first sign second, or ("error", word)."""
    if sign == "==":
        return truth_value(first == second)
    if first[0] != "num" or second[0] != "num":
        return ("error", "number")
    if sign in COMPARISONS:
        return truth_value(first[1] < second[1] or (sign == "<=" and first[1] == second[1]))
    if sign in DIVISIONS and second[1] == 0:
        return ("error", "division")
    result = computed(sign, first[1], second[1])
    if abs(result) > LARGEST_RESULT:
        return ("error", "overflow")
    return ("num", result)


def truth_value(holds):
    """Return the value of a truth."""
    return ("true",) if holds else ("false",)


def computed(sign, a, b):
    """Return the number that an operator makes of two, whatever its size."""
    if sign == "+":
        return a + b
    if sign == "-":
        return a - b
    if sign == "*":
        return a * b
    if sign == "div":
        return a // b
    return a % b
