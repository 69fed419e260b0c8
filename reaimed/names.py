"""The locals of codes, and where their names can be used."""


class Names:
    """The locals of one code at the place that has been reached in its text.

    Each body around this place has a dict from its names to their numbers, the
    innermost one last. The parameters stand in the first one. The codes around
    a block are reached by way of outer; methods and main have None there.
    """

    def __init__(self, outer):
        self.outer = outer
        self.bodies = [{}]
        self.many = 0

    def begin_body(self):
        """Go on in a body that stands in this one."""
        self.bodies.append({})

    def end_body(self):
        """Go on behind the innermost body, whose names are gone then."""
        self.bodies.pop()

    def is_taken(self, name):
        """Tell whether the innermost body has this name already."""
        return name in self.bodies[-1]

    def give(self, name):
        """Give the next number to a name that can be used from here on; return the number."""
        number = self.many
        self.bodies[-1][name] = number
        self.many += 1
        return number

    def own_number(self, name):
        """Return the number of the nearest local of this code with a name, or -1."""
        for body in reversed(self.bodies):
            if name in body:
                return body[name]
        return -1

    def place_of(self, name):
        """Return how many codes outwards a name is a local, and its number there, or None."""
        depth = 0
        names = self
        while names is not None:
            number = names.own_number(name)
            if number != -1:
                return (depth, number)
            names = names.outer
            depth += 1
        return None


def operands(expr):
    """Return the expressions whose values an expression takes, from left to right.

    The slots of an object and the body of a block are not among them.
    """
    match expr:
        case ("own", _, args):
            return args
        case ("resend", _, args):
            return args
        case ("send", receiver, _, args):
            return (receiver, *args)
        case ("call", receiver, args):
            return (receiver, *args)
        case ("op", _, first, second):
            return (first, second)
        case _:
            return ()
