"""Losses: the elements of a document that the language can't express."""

from macromarkup.lines import line_with
from macromarkup.showing import FENCES
from macromarkup.signs import BLANK, DOLLAR, LINE_FEED, WHITE, codes_of

NO_LOSS = 0
LOST_LITERAL = 1
LOST_MATH = 2
LOST_TARGET = 3
LOST_CODE = 4
LOST_FORMULA = 5


def losses_of(document):
    """The kinds of the losses of a document in normal form, in the order of its notation."""
    kinds = []
    rest = [document]
    while rest:
        item = rest.pop()
        if isinstance(item, int):
            continue
        kind = loss_of(item)
        if kind != NO_LOSS:
            kinds.append(kind)
        rest.extend(list(reversed(item.children)))
    return kinds


def loss_of(node):
    """The kind of the loss that the node is by itself."""
    fields = node.fields
    if node.kind == "code" and len(fields) == 1 and not is_literal(fields[0]):
        return LOST_LITERAL
    if node.kind == "math" and (not fields[0] or DOLLAR in fields[0]):
        return LOST_MATH
    if node.kind in ("link", "image", "figure") and not is_target(fields[-1]):
        return LOST_TARGET
    if node.kind == "code" and len(fields) == 2 and ends_content(fields[1], "code"):
        return LOST_CODE
    if node.kind == "formula" and ends_content(fields[1], "formula"):
        return LOST_FORMULA
    return NO_LOSS


def is_literal(text):
    """Whether a literal text can consist of these code points."""
    return LINE_FEED not in text and not all([fence in text for fence in codes_of(FENCES)])


def is_target(target):
    """Whether a target of a text can consist of these code points: a space is the only white space in it."""
    return not any([code in WHITE and code != BLANK for code in target])


def ends_content(text, name):
    """Whether a line of the text begins with what ends literal content of this name."""
    return line_with(list(text), 0, codes_of("\\end{" + name + "}")) is not None
