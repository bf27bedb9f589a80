"""Inline elements from the expressions of a notation."""

from macromarkup.faults import BadNotation
from macromarkup.language import STYLES
from macromarkup.nodes import Node
from macromarkup.parts import Parts, take_classes


def inlines_from(expressions):
    """The inline elements that these expressions are."""
    items = []
    for expression in expressions:
        if isinstance(expression, tuple):
            items.extend(list(expression))
        else:
            items.append(element_from(Parts(expression)))
    return items


def element_from(parts):
    """An inline element other than a text."""
    fields = fields_from(parts)
    others = parts.take_others()
    if others and not can_hold(parts.symbol):
        raise BadNotation()
    return Node(parts.symbol, fields, inlines_from(others))


def can_hold(kind):
    """Whether an inline element of this kind has children."""
    return kind in STYLES or kind in ("link", "image", "span")


def fields_from(parts):
    """What an inline element has ahead of its children."""
    kind = parts.symbol
    if kind == "break" or kind in STYLES:
        return ()
    if kind in ("code", "math", "link", "image"):
        return (parts.take_string(),)
    if kind in ("noteref", "ref"):
        return (parts.take_label(),)
    if kind == "cite":
        return (parts.take_label(),) + parts.take_labels()
    if kind == "span":
        return take_classes(parts)
    raise BadNotation()
