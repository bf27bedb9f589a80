"""The canonical notation of documents."""

from macromarkup.faults import TooDeep
from macromarkup.nodes import Node
from macromarkup.signs import BACKSLASH, BLANK, LINE_FEED, QUOTE, TAB, codes_of

MOST_LISTS = 16
LEAST_PLAIN = 32


def notation_of(document):
    """The code points of the canonical notation of a document in normal form that isn't nested too deeply."""
    codes = []
    for block in document.children:
        if codes:
            codes.append(LINE_FEED)
        codes.extend(list_codes(block))
    return codes


def check_depth(document):
    """Sees to it that the lists of the notation wouldn't be nested too deeply."""
    rest = [(block, 1) for block in document.children]
    while rest:
        node, depth = rest.pop()
        if depth > MOST_LISTS:
            raise TooDeep()
        rest.extend([(part, depth + 1) for part in parts_of(node) if isinstance(part, Node)])


def list_codes(node):
    # Lists are nested at most as deep as the language allows.
    codes = codes_of("(")
    for part in parts_of(node):
        if len(codes) > 1:
            codes.append(BLANK)
        if isinstance(part, Node):
            codes.extend(list_codes(part))
        else:
            codes.extend(atom_codes(part))
    codes.extend(codes_of(")"))
    return codes


def parts_of(node):
    """The parts of the list that stands for a node: nodes, numbers, texts of the program and tuples of code points."""
    parts = []
    if node.kind != "head":
        parts.append(node.kind)
    if node.kind in ("group", "span"):
        parts.append(Node("class", node.fields, []))
    else:
        parts.extend(node.fields)
    parts.extend(with_texts(node.children))
    return parts


def with_texts(children):
    """The children with a tuple for the code points that stand one after another."""
    parts = []
    text = []
    for child in children:
        if isinstance(child, int):
            text.append(child)
            continue
        if text:
            parts.append(tuple(text))
            text = []
        parts.append(child)
    if text:
        parts.append(tuple(text))
    return parts


def atom_codes(part):
    """The code points of an integer, a symbol or a string."""
    if isinstance(part, int):
        return codes_of(str(part))
    if isinstance(part, str):
        return codes_of(part)
    codes = [QUOTE]
    for code in part:
        codes.extend(escaped_code(code))
    codes.append(QUOTE)
    return codes


def escaped_code(code):
    if code in (QUOTE, BACKSLASH):
        return [BACKSLASH, code]
    if code == LINE_FEED:
        return codes_of("\\n")
    if code == TAB:
        return codes_of("\\t")
    if code < LEAST_PLAIN:
        return codes_of("\\u{" + hexadecimal(code) + "}")
    return [code]


def hexadecimal(code):
    """A code point below U+0020 in hexadecimal digits without leading zeros."""
    digits = "0123456789abcdef"
    if code < 16:
        return digits[code]
    return digits[code // 16] + digits[code % 16]
