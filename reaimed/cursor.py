"""The tokens of one text, read from left to right."""

from reaimed.errors import Unexpected
from reaimed.tokens import tokens


class Cursor:
    """The tokens of a text, and the index of the one that comes next.

    No name or number has the text of a keyword or a sign, so these are asked
    for by their texts alone.
    """

    def __init__(self, text):
        self.found = tokens(text)
        self.at = 0

    def kind(self, ahead=0):
        """Return the kind of the next token, or of one further ahead."""
        return self.found[self.at + ahead][0]

    def word(self, ahead=0):
        """Return the text of the next token, or of one further ahead."""
        return self.found[self.at + ahead][1]

    def take(self):
        """Return the text of the next token, and go on behind it."""
        word = self.word()
        self.at += 1
        return word

    def took(self, word):
        """Go on behind a keyword or a sign if it comes next; tell whether it did."""
        if self.word() != word:
            return False
        self.at += 1
        return True

    def want(self, word):
        """Go on behind a keyword or a sign; another token is unexpected."""
        if not self.took(word):
            self.refuse()

    def take_name(self):
        """Return the name that comes next, and go on behind it."""
        if self.kind() != "name":
            self.refuse()
        return self.take()

    def want_end(self):
        """Refuse a token that stands where the text should end."""
        if self.kind() != "end":
            self.refuse()

    def refuse(self):
        """Raise the error of the next token."""
        _, _, row, column = self.found[self.at]
        raise Unexpected(row, column)
