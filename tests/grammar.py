"""The grammar of point 1.5 as rows of words, and a reader that knows nothing else.

The reader (Earley's) goes over all ways to read some words at once. So it tells
without any parser of its own which is the first word that the grammar does not
allow at its place. A dot of point 1.6 that belongs to a postfix is "own-dot".
"""

from reaimed.tokens import tokens

ROWS = """
program -> items main body end
items -> | items item
item -> object name { slots } | method name params body
params -> ( ) | ( names )
names -> name | names , name
slots -> | slots slot
slot -> aim name = expr ; | name = expr ; | method name params body
aim -> const | var | parent | var parent
body -> { statements }
statements -> | statements statement
statement -> let name = expr ; | name := expr ; | print expr ; | return expr ;
statement -> if expr body | if expr body else body | while expr body
statement -> put postfix . name aim = expr ; | drop postfix . name ; | postfix . name := expr ; | expr ;
expr -> sum | sum == sum | sum < sum | sum <= sum
sum -> product | sum + product | sum - product
product -> postfix | product * postfix | product div postfix | product mod postfix
postfix -> primary | postfix own-dot name args | postfix own-dot call args
args -> ( ) | ( exprs )
exprs -> expr | exprs , expr
primary -> number | true | false | nothing | self | name | name args | resend name args
primary -> object { slots } | fn params body | ( expr )
whole -> expr end
"""


def read_rules():
    rules = {}
    for row in ROWS.strip().split("\n"):
        left, right = row.split("->")
        sides = [tuple(side.split()) for side in right.split("|")]
        rules.setdefault(left.strip(), []).extend(sides)
    return rules


RULES = read_rules()


def words_of(found):
    """The words of the grammar for a list of tokens."""
    kinds = [text if kind in ("keyword", "sign") else kind for kind, text, _, _ in found]
    words = []
    for at, word in enumerate(kinds):
        if word == "." and kinds[at + 1] in ("name", "call") and kinds[at + 2] == "(":
            word = "own-dot"
        words.append(word)
    return words


class Reader:
    """All ways to read some words as one part of the grammar."""

    def __init__(self, part):
        self.words = []
        self.sets = [self.close([("start", (part,), 0, 0)], 0)]

    def close(self, items, at):
        """The items with those that they ask for and those that they end."""
        found = dict.fromkeys(items)
        work = list(items)
        while work:
            left, side, dot, origin = work.pop()
            if dot < len(side) and side[dot] in RULES:
                more = [(side[dot], other, 0, at) for other in RULES[side[dot]]]
                if () in RULES[side[dot]]:
                    more.append((left, side, dot + 1, origin))
            elif dot == len(side):
                before = found if origin == at else self.sets[origin]
                more = [(l, s, d + 1, o) for l, s, d, o in before if d < len(s) and s[d] == left]
            else:
                more = []
            for item in more:
                if item not in found:
                    found[item] = None
                    work.append(item)
        return found

    def first_wrong(self, words):
        """The index of the first word that is not allowed, or None."""
        same = 0
        while same < min(len(words), len(self.words)) and words[same] == self.words[same]:
            same += 1
        del self.words[same:]
        del self.sets[same + 1:]
        for at in range(same, len(words)):
            items = [(l, s, d + 1, o) for l, s, d, o in self.sets[at] if d < len(s) and s[d] == words[at]]
            if not items:
                return at
            self.words.append(words[at])
            self.sets.append(self.close(items, at + 1))
        return None

    def wrong_place(self, text):
        """The place of the first token of a text that is not allowed, or None."""
        found = tokens(text)
        at = self.first_wrong(words_of(found))
        return None if at is None else found[at][2:]
