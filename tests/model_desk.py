"""The desk of point 21 once more: rows are told by what their whole text looks like."""

import re

import model

WORD = r"[!-$&-~]+"
WHOLE = r"(0|-?[1-9][0-9]{0,8})"
LINE = rf"({WORD}(?: {WORD}){{0,11}})"
PART = r"(?:<number>|<name>|<any>|=[<=][!-$&-~]*|[!-$&-;>-~][!-$&-~]*)"
PATTERN = rf"({PART}(?: {PART}){{0,11}})"


def read(text):
    told = []
    for piece in text.split(" "):
        if piece.startswith("<"):
            told.append(("hole", piece.strip("<>")))
        else:
            told.append(("word", piece[1:] if piece.startswith("=") else piece))
    return told


def write(pattern):
    def part_text(kind, text):
        if kind == "hole":
            return "<" + text + ">"
        return re.sub("^([<=])", r"=\1", text)
    return " ".join(part_text(*part) for part in pattern)


class ModelDesk:
    """A desk that tells pairs: the name of a refusal or None, and the answer or None."""

    def __init__(self):
        self.log = model.ModelLog((3, 2))

    def say(self, row):
        for form, answer in [
                (f"line {WHOLE} {LINE}", self.line), (f"put {PATTERN}", self.put), (f"take {PATTERN}", self.take),
                ("back", self.back), ("again", self.again), ("patterns", self.patterns), (f"fall {LINE}", self.fall),
                (f"counts {WHOLE} {WHOLE}", self.counts), ("moves", self.moves)]:
            found = re.fullmatch(form, row)
            if found:
                told = answer(*found.groups())
                return told if isinstance(told, tuple) else (None, told or "none")
        return ("NoRow", None)

    def line(self, moment, line):
        rows = self.log.rows()
        if rows and int(moment) < rows[-1][0]:
            return ("NoMoment", None)
        if len(rows) == 120:
            return ("TooMany", None)
        self.log.deed("come", int(moment), line)
        return str(len(rows))

    def put(self, text):
        if read(text) in self.log.hand():
            return ("NoPattern", None)
        if len(self.log.hand()) == 12:
            return ("TooMany", None)
        self.log.deed("put", read(text))
        return "ok"

    def take(self, text):
        if read(text) not in self.log.hand():
            return ("NoPattern", None)
        self.log.deed("take", read(text))
        return "ok"

    def back(self):
        if self.log.done == 0:
            return ("NothingLeft", None)
        self.log.step(-1)
        return "ok"

    def again(self):
        if self.log.done == len(self.log.deeds):
            return ("NothingLeft", None)
        self.log.step(1)
        return "ok"

    def patterns(self):
        return " | ".join(write(pattern) for pattern in self.log.patterns())

    def fall(self, line):
        pattern = model.fall(line, self.log.hand()) or model.fall(line, self.log.found())
        return pattern and write(pattern)

    def counts(self, low, high):
        return " ".join(str(many) for pattern, many in self.log.counts(int(low), int(high)))

    def moves(self):
        return " ".join(str(many) for old, new, many in self.log.moves())
