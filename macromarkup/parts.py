"""The parts of a list of a notation, taken one after another."""

from macromarkup.faults import BadNotation
from macromarkup.signs import is_label


class Parts:
    """The parts that a list has behind its symbol, and how many of them have been taken."""

    def __init__(self, expression):
        if not isinstance(expression, list) or not expression or not isinstance(expression[0], str):
            raise BadNotation()
        self.symbol = expression[0]
        self.parts = expression
        self.at = 1

    def take(self):
        """Takes the next part."""
        if self.at == len(self.parts):
            raise BadNotation()
        self.at += 1
        return self.parts[self.at - 1]

    def take_others(self):
        """Takes all parts that are left."""
        others = self.parts[self.at:]
        self.at = len(self.parts)
        return others

    def take_some(self):
        """Takes all parts that are left; there must be one or more."""
        others = self.take_others()
        if not others:
            raise BadNotation()
        return others

    def take_number(self):
        part = self.take()
        if not isinstance(part, int):
            raise BadNotation()
        return part

    def take_string(self):
        part = self.take()
        if not isinstance(part, tuple):
            raise BadNotation()
        return part

    def take_label(self):
        label = self.take_string()
        if not is_label(label):
            raise BadNotation()
        return label

    def take_identifier(self):
        identifier = self.take_string()
        if identifier and not is_label(identifier):
            raise BadNotation()
        return identifier

    def take_labels(self):
        """Takes all parts that are left, which must be labels."""
        labels = []
        while self.at < len(self.parts):
            labels.append(self.take_label())
        return tuple(labels)


def parts_of(expression, symbol):
    """The parts of a list that must begin with this symbol."""
    parts = Parts(expression)
    if parts.symbol != symbol:
        raise BadNotation()
    return parts


def take_classes(parts):
    """Takes the list of classes of a group or a span."""
    return parts_of(parts.take(), "class").take_labels()
