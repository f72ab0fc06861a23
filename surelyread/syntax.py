"""The rules by which signs are a grammar."""

from surelyread.errors import Fault
from surelyread.pixels import is_row
from surelyread.strips import REPEATS, usual_joint, usual_sizes

RESERVED = ("shape", "plain", "white", "black", "across", "down", "join", "cost", "to")


class Parser:
    """Steps through the signs of a grammar; at is the index of the sign that comes next."""

    def __init__(self, signs):
        self.signs = signs
        self.at = 0
        self.parts = []

    def refuse(self, reason):
        """Raises the fault of the next sign."""
        sign = self.signs[self.at]
        raise Fault(sign[2], sign[3], reason)

    def next_kind(self):
        """The kind of the next sign."""
        return self.signs[self.at][0]

    def next_value(self):
        """The value of the next sign."""
        return self.signs[self.at][1]

    def take(self, kind):
        """Steps over a sign that must have this kind; its value."""
        if self.next_kind() != kind:
            self.refuse("unexpected sign")
        value = self.next_value()
        self.at += 1
        return value

    def take_word(self, words):
        """Steps over a word that must be one of these; the word."""
        if self.next_value() not in words:
            self.refuse("unexpected sign")
        return self.take("word")

    def skip(self, kind, value):
        """Steps over a sign if it has this kind and value; whether it has."""
        if self.next_kind() != kind or self.next_value() != value:
            return False
        self.at += 1
        return True

    def expect(self, symbol):
        """Steps over a sign that must be this symbol."""
        if not self.skip("symbol", symbol):
            self.refuse("unexpected sign")

    def read_grammar(self):
        """The parts of the whole text."""
        self.parts.append(self.read_part())
        while self.next_kind() != "end":
            self.parts.append(self.read_part())
        return tuple(self.parts)

    def read_part(self):
        """The part that comes next."""
        kind = self.take_word(("shape", "plain", "across", "down"))
        if self.number_of_name() is not None:
            self.refuse("name already used")
        name = self.take("word")
        if kind == "shape":
            return self.read_shape(name)
        if kind == "plain":
            return self.read_plain(name)
        return self.read_strip(kind, name)

    def number_of_name(self):
        """The number of the part whose name comes next, or None if no part so far has it."""
        name = self.next_value()
        if self.next_kind() != "word" or name in RESERVED:
            self.refuse("unexpected sign")
        for number in range(len(self.parts)):
            if self.parts[number][1] == name:
                return number
        return None

    def read_shape(self, name):
        """The shape behind its name."""
        label = self.read_label()
        cost = self.read_cost()
        self.expect("{")
        rows = [self.read_row("")]
        while self.next_kind() == "quoted":
            rows.append(self.read_row(rows[0]))
        self.expect("}")
        return ("shape", name, label, cost, tuple(rows))

    def read_row(self, first):
        """The row of a pattern that comes next; first is the first row, empty ahead of it."""
        if self.next_kind() == "quoted":
            if not is_row(self.next_value()):
                self.refuse("not a row of pixels")
            if first != "" and len(self.next_value()) != len(first):
                self.refuse("row of another length")
        return self.take("quoted")

    def read_plain(self, name):
        """The plain part behind its name."""
        colour = self.take_word(("white", "black"))
        label = self.read_label()
        cost = self.read_cost()
        self.expect(";")
        return ("plain", name, label, cost, colour == "black")

    def read_strip(self, direction, name):
        """The strip behind its name."""
        joint = usual_joint(direction)
        if self.skip("word", "join"):
            joint = self.take("quoted")
        self.expect("=")
        choice = self.read_choice(direction)
        self.expect(";")
        return (direction, name, joint, choice)

    def read_label(self):
        """The label that comes next, or an empty one if it is missing."""
        return self.take("quoted") if self.next_kind() == "quoted" else ""

    def read_cost(self):
        """The cost that comes next, or 0 if it is missing."""
        return self.take("number") if self.skip("word", "cost") else 0

    def read_choice(self, direction):
        """The choice of a strip with this direction, or the only sequence of it."""
        sequences = [self.read_sequence(direction)]
        while self.skip("symbol", "|"):
            sequences.append(self.read_sequence(direction))
        return together("choice", sequences)

    def read_sequence(self, direction):
        """The sequence that comes next, or the only item of it."""
        found = [self.read_item(direction)]
        while self.skip("symbol", ","):
            found.append(self.read_item(direction))
        return together("sequence", found)

    def read_item(self, direction):
        """The item that comes next."""
        if self.skip("symbol", "("):
            inner = self.read_choice(direction)
            self.expect(")")
        else:
            inner = self.read_place(direction)
        for mark, kind in REPEATS:
            if self.skip("symbol", mark):
                return (kind, inner)
        return inner

    def read_place(self, direction):
        """The place that comes next."""
        part = self.number_of_name()
        if part is None:
            self.refuse("unknown name")
        self.take("word")
        least, most = usual_sizes(direction, self.parts[part])
        if self.next_kind() == "number":
            least = self.read_size(1, "number must be at least 1")
            most = least
            if self.skip("word", "to"):
                most = self.read_size(least, "number too small")
        return ("place", part, least, most, self.read_cost())

    def read_size(self, lowest, reason):
        """The number that comes next, which must not be below the lowest one."""
        if self.next_kind() == "number" and self.next_value() < lowest:
            self.refuse(reason)
        return self.take("number")


def together(kind, expressions):
    """The sequence or the choice of the expressions; of one expression, this one."""
    if len(expressions) == 1:
        return expressions[0]
    return (kind, tuple(expressions))
