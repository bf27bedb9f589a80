"""Writes inline elements."""

from macromarkup.showing import literal_codes, math_codes
from macromarkup.signs import AMPERSAND, BACKSLASH, BLANK, COMMA, DOLLAR, HASH, LEFT_BRACE, LEFT_BRACKET, PERCENT
from macromarkup.signs import RIGHT_BRACE, RIGHT_BRACKET, TILDE, codes_of

ESCAPED_SIGNS = (
    LEFT_BRACE, RIGHT_BRACE, DOLLAR, PERCENT, AMPERSAND, HASH, TILDE, LEFT_BRACKET, RIGHT_BRACKET,
)


def inlines_codes(items):
    """The code points of the text of a list of inline elements."""
    codes = []
    for item in items:
        if isinstance(item, int):
            codes.extend(sign_codes(item))
        else:
            codes.extend(element_codes(item))
    return codes


def sign_codes(code):
    """How a code point of a text is written."""
    if code == BACKSLASH:
        return command_with("backslash", [[]])
    if code in ESCAPED_SIGNS:
        return [BACKSLASH, code]
    return [code]


def element_codes(node):
    """How an inline element other than a text is written."""
    if node.kind == "code":
        return literal_codes(node.fields[0])
    if node.kind == "math":
        return math_codes(node.fields[0])
    if node.kind == "break":
        return command_with("newline", [[]])
    if node.kind in ("noteref", "ref"):
        return command_with(node.kind, [node.fields[0]])
    if node.kind == "cite":
        return command_with(node.kind, [labels_codes(node.fields)])
    content = inlines_codes(node.children)
    if node.kind == "span":
        return command_with(node.kind, [labels_codes(node.fields), content])
    if node.kind in ("link", "image"):
        return command_with(node.kind, [target_codes(node.fields[0]), content])
    return command_with(node.kind, [content])


def command_with(name, arguments):
    codes = codes_of("\\" + name)
    for argument in arguments:
        codes.extend(braced(argument))
    return codes


def braced(codes):
    return [LEFT_BRACE] + list(codes) + [RIGHT_BRACE]


def labels_codes(labels):
    return separated_by([COMMA], labels)


def target_codes(target):
    codes = []
    for code in target:
        if code == BLANK:
            codes.append(BACKSLASH)
        codes.extend(sign_codes(code))
    return codes


def separated_by(separator, parts):
    """The code points of all parts, with the separator between two of them."""
    codes = []
    for number, part in enumerate(parts):
        if number > 0:
            codes.extend(separator)
        codes.extend(list(part))
    return codes
