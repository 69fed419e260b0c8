"""Tokens: the words and signs of a text, each with its place."""

from reaimed.errors import BadCharacter, BadNumber

KEYWORDS = (
    "method", "main", "object", "const", "var", "parent", "let", "print", "return", "if", "else", "while",
    "put", "drop", "resend", "fn", "call", "self", "true", "false", "nothing", "div", "mod",
)
LONG_SIGNS = (":=", "==", "<=")
SHORT_SIGNS = ("{", "}", "(", ")", ",", ";", ".", "=", "+", "-", "*", "<")
DIGITS = "0123456789"
LARGEST = 1000000000000
MOST_DIGITS = 13


def tokens(text):
    """Return the list of the tokens (kind, text, row, column), the end token last."""
    scanner = Scanner(text)
    found = []
    scanner.skip_gaps()
    while not scanner.is_done():
        found.append(scanner.take_token())
        scanner.skip_gaps()
    found.append(("end", "", scanner.row, scanner.column))
    return found


def is_letter(char):
    """Tell whether a character is one of the letters of the language."""
    # isalpha alone would also take the letters of other alphabets.
    return char.isascii() and char.isalpha()


def is_word_part(char):
    """Tell whether a name or a number extends over a character."""
    return is_letter(char) or char in DIGITS or char == "_"


def is_name(word):
    """Tell whether a word is a name."""
    if len(word) == 0 or not is_letter(word[0]) or word in KEYWORDS:
        return False
    return all([is_word_part(char) for char in word])


def is_number(word):
    """Tell whether a word is a number."""
    # isdigit alone would also take the digits of other alphabets.
    if not word.isascii() or not word.isdigit():
        return False
    if len(word) > 1 and word[0] == "0":
        return False
    # Python refuses to convert very long numbers, so the length is asked first.
    return len(word) <= MOST_DIGITS and int(word) <= LARGEST


def word_kind(word):
    """Return the kind of the token of a word that begins with a letter."""
    if word in KEYWORDS:
        return "keyword"
    return "name"


class Scanner:
    """A text, and the place in it up to which it has been read."""

    def __init__(self, text):
        self.text = text
        self.at = 0
        self.row = 1
        self.column = 1

    def is_done(self):
        """Tell whether the whole text has been read."""
        return self.at == len(self.text)

    def skip_gaps(self):
        """Go on behind spaces, newlines and comments."""
        while not self.is_done():
            char = self.text[self.at]
            if char == "\n":
                self.skip_newline()
            elif char == " ":
                self.take_to(self.at + 1)
            elif char == "#":
                self.take_to(self.row_end())
            else:
                return

    def skip_newline(self):
        """Go on to the beginning of the next row."""
        self.at += 1
        self.row += 1
        self.column = 1

    def row_end(self):
        """Return the index of the next newline, or of the end of the text."""
        end = self.text.find("\n", self.at)
        if end == -1:
            return len(self.text)
        return end

    def word_end(self):
        """Return the index behind the letters, digits and _ that follow."""
        end = self.at
        while end < len(self.text) and is_word_part(self.text[end]):
            end += 1
        return end

    def take_to(self, end):
        """Return what stands before an index of the same row, and go on there."""
        taken = self.text[self.at:end]
        self.column += end - self.at
        self.at = end
        return taken

    def take_token(self):
        """Return the token that begins here, and go on behind it."""
        row = self.row
        column = self.column
        char = self.text[self.at]
        if is_letter(char):
            word = self.take_to(self.word_end())
            return (word_kind(word), word, row, column)
        if char in DIGITS:
            word = self.take_to(self.word_end())
            if not is_number(word):
                raise BadNumber(row, column)
            return ("number", word, row, column)
        return ("sign", self.take_sign(), row, column)

    def take_sign(self):
        """Return the longest sign that begins here, and go on behind it."""
        pair = self.text[self.at:self.at + 2]
        if pair in LONG_SIGNS:
            return self.take_to(self.at + 2)
        if self.text[self.at] in SHORT_SIGNS:
            return self.take_to(self.at + 1)
        raise BadCharacter(self.row, self.column)
