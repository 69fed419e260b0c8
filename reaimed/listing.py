"""Listings: code programs as texts, a row of text for each row of code."""

from reaimed.errors import BadListing
from reaimed.objects import KINDS
from reaimed.rows import FORMS, SIGNS, WORD_VALUES
from reaimed.tokens import is_name, is_number

INDENT = "    "
FLAGS = ("0", "1")


def write_listing(code):
    """Return the listing of a program."""
    codes, main = code
    texts = []
    for index, one in enumerate(codes):
        params, places, captured, rows = one
        texts.append(f"code {index} params {params} locals {places} captured {int(captured)}\n")
        for row in rows:
            texts.append(f"{INDENT}{write_row(row)}\n")
    return "".join(texts) + f"main {main}\n"


def write_row(row):
    """Return the text of one row of code."""
    words = [row[0]]
    for form, part in zip(FORMS[row[0]], row[1:]):
        words.extend(part_words(form, part))
    return " ".join(words)


def part_words(form, part):
    """Return the words that stand for a part of a row."""
    if form == "value":
        # The last part of a value is its number, or the word that it is.
        return [str(part[-1])]
    if form == "pairs":
        return [word for pair in part for word in pair]
    return [str(part)]


def read_listing(text):
    """Return the program of a listing."""
    reader = Reader()
    # Behind the last newline stands nothing, or a row that is wrong.
    *rows, last = text.split("\n")
    for number, row in enumerate(rows, start=1):
        if not reader.took_row(row):
            raise BadListing(number)
    if reader.main is None or last != "":
        raise BadListing(len(rows) + 1)
    return reader.program()


class Reader:
    """What has been read of a listing.

    A code is kept as a list of its first three parts and a list of its rows.
    """

    def __init__(self):
        self.codes = []
        self.main = None

    def took_row(self, text):
        """Read a row, and tell whether it is right where it stands."""
        if self.main is not None:
            return False
        if text.startswith(INDENT):
            return self.took_inner_row(text[len(INDENT):].split(" "))
        words = text.split(" ")
        if words[0] == "code":
            return self.took_head(words)
        return self.took_main(words)

    def took_head(self, words):
        """Read the row that begins a code."""
        if len(words) != 8 or words[2] != "params" or words[4] != "locals" or words[6] != "captured":
            return False
        if words[1] != str(len(self.codes)) or words[7] not in FLAGS:
            return False
        if not is_number(words[3]) or not is_number(words[5]):
            return False
        self.codes.append((int(words[3]), int(words[5]), words[7] == "1", []))
        return True

    def took_inner_row(self, words):
        """Read a row of the code that was begun last."""
        if len(self.codes) == 0:
            return False
        row = read_row(words)
        if row is None:
            return False
        self.codes[-1][3].append(row)
        return True

    def took_main(self, words):
        """Read the row with the index of main."""
        if len(words) != 2 or words[0] != "main" or not is_number(words[1]):
            return False
        self.main = int(words[1])
        return True

    def program(self):
        """Return the program that was read."""
        codes = [(params, places, captured, tuple(rows)) for params, places, captured, rows in self.codes]
        return (tuple(codes), self.main)


def read_row(words):
    """Return the row of code that some words stand for, or None."""
    if words[0] not in FORMS:
        return None
    forms = FORMS[words[0]]
    if forms == ("pairs",):
        parts = [read_pairs(words[1:])]
    elif len(words) == 1 + len(forms):
        parts = [read_part(form, word) for form, word in zip(forms, words[1:])]
    else:
        return None
    if None in parts:
        return None
    return (words[0], *parts)


def read_pairs(words):
    """Return the pairs of names and kinds that some words stand for, or None."""
    names = words[0::2]
    kinds = words[1::2]
    if len(names) != len(kinds):
        return None
    if not all([is_name(name) for name in names]) or not all([kind in KINDS for kind in kinds]):
        return None
    return tuple(zip(names, kinds))


def read_part(form, word):
    """Return the part with a form that a word stands for, or None."""
    if form == "name":
        return word if is_name(word) else None
    if form == "kind":
        return word if word in KINDS else None
    if form == "sign":
        return word if word in SIGNS else None
    if form == "value" and word in WORD_VALUES:
        return (word,)
    if not is_number(word):
        return None
    if form == "value":
        return ("num", int(word))
    return int(word)
