"""Readings: the programs, and what is told at last, that have a text."""

from toldatlast.errors import InvalidName, NothingHandled, Unreadable
from toldatlast.programs import Program
from toldatlast.rows import LETTERS, is_name
from toldatlast.runs import ENDED, LEFT


def read_program(text):
    """Return the program with a text."""
    reading = Reading(text)
    row = reading.read_row()
    if reading.position < len(text):
        raise Unreadable(text)
    # The reading takes any letters for a name, and any statement anywhere; a program does not.
    try:
        return Program(row)
    except (InvalidName, NothingHandled):
        raise Unreadable(text) from None


class Reading:
    """A text, and the index up to which it was read."""

    def __init__(self, text):
        self.text = text
        self.position = 0

    def read_row(self):
        """Read a row, up to a bracket that closes or to the end of the text."""
        if self.position == len(self.text) or self.text[self.position] == "}":
            return []
        row = [self.read_statement()]
        while self.skip("; "):
            row.append(self.read_statement())
        return row

    def read_statement(self):
        """Read a statement."""
        word = self.read_word()
        if word == "guard":
            return self.read_guard()
        if word in ("again", "leave"):
            return (word,)
        if word in ("step", "raise", "from", "hide"):
            self.demand(" ")
            return (word, self.read_word())
        raise Unreadable(self.text)

    def read_guard(self):
        """Read the rest of a guard."""
        self.demand(" ")
        body = self.read_bracketed()
        handlers = []
        while self.skip(" on "):
            handlers.append(self.read_handler())
        self.demand(" last ")
        return ("guard", body, handlers, self.read_bracketed())

    def read_handler(self):
        """Read the names and the row of a handler."""
        names = self.read_names()
        self.demand(" ")
        return (names, self.read_bracketed())

    def read_names(self):
        """Read the names of a handler, None for all."""
        if self.skip("*"):
            return None
        names = [self.read_word()]
        while self.skip(","):
            names.append(self.read_word())
        return [] if names == [""] else names

    def read_bracketed(self):
        """Read a row within a guard."""
        self.demand("{")
        row = self.read_row()
        self.demand("}")
        return row

    def read_word(self):
        """Read all letters that follow, perhaps none."""
        start = self.position
        while self.position < len(self.text) and self.text[self.position] in LETTERS:
            self.position += 1
        return self.text[start:self.position]

    def skip(self, signs):
        """Go behind some signs and return True if they follow, otherwise False."""
        follow = self.text.startswith(signs, self.position)
        if follow:
            self.position += len(signs)
        return follow

    def demand(self, signs):
        """Go behind some signs that must follow."""
        if not self.skip(signs):
            raise Unreadable(self.text)


def read_told(text):
    """Return what is told at last, with a text."""
    for told in (ENDED, LEFT):
        if text == told[0]:
            return told
    parts = text.split(" ")
    words = parts[::2]
    names = parts[1::2]
    if not are_links(words, names):
        raise Unreadable(text)
    return ("error", list(zip(words, names)))


def are_links(words, names):
    """Tell whether some words and as many names make a chain."""
    return (len(words) == len(names) and words[0] == "told"
            and all([word in ("during", "from") for word in words[1:]])
            and all([is_name(name) for name in names]))
