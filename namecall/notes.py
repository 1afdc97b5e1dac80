"""Named terms written as lines, and lines read."""

from namecall.errors import NoLine
from namecall.words import LETTERS


def shown(term):
    pieces = []
    todo = [term]
    while todo:
        part = todo.pop()
        if isinstance(part, str):
            pieces.append(part)
        elif part[0] == "name":
            pieces.append(part[1])
        elif part[0] == "form":
            todo.extend([part[2], ":", part[1]])
        else:
            todo.extend([")", part[2], " ", part[1], "("])
    return "".join(pieces)


# What is begun and not yet at its end is kept as a list, the outermost first: ("form", word), ("call",)
# while its `one` is read, and ("call", one) from then on.
class Reader:
    def __init__(self, line):
        self.line = line
        self.at = 0
        self.begun = []

    def is_over(self):
        return self.at == len(self.line)

    def take(self, sign):
        if self.is_over() or self.line[self.at] != sign:
            return False
        self.at += 1
        return True

    def need(self, sign):
        if not self.take(sign):
            raise NoLine("a sign is missing")

    def take_word(self):
        start = self.at
        while not self.is_over() and self.line[self.at] in LETTERS:
            self.at += 1
        if self.at == start:
            raise NoLine("a word is missing")
        return self.line[start:self.at]

    # Every term begins with calls and forms, as many as there may be, and then a name.
    def next_name(self):
        while True:
            if self.take("("):
                self.begun.append(("call",))
            else:
                word = self.take_word()
                if not self.take(":"):
                    return ("name", word)
                self.begun.append(("form", word))

    # The part with all round it that comes to its end there, or None where a call's `other` comes first.
    def ended(self, part):
        while self.begun:
            over = self.begun.pop()
            if over[0] == "form":
                part = ("form", over[1], part)
            elif len(over) == 2:
                self.need(")")
                part = ("call", over[1], part)
            else:
                self.need(" ")
                self.begun.append(("call", part))
                return None
        return part


def read(line):
    reader = Reader(line)
    term = None
    while term is None:
        term = reader.ended(reader.next_name())
    if not reader.is_over():
        raise NoLine("more stands behind the term")
    return term
