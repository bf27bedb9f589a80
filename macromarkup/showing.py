"""Tokens as a text."""

from macromarkup.lexis import CHARACTER, CLOSING, CODE, COMMAND, ESCAPED, FORMULA, LITERAL, MATH, OPENING
from macromarkup.lexis import PARAGRAPH, PARAMETER, SPACE
from macromarkup.signs import AMPERSAND, BACKSLASH, BLANK, DOLLAR, HARD_BLANK, HASH, LEFT_BRACE, LINE_FEED
from macromarkup.signs import RIGHT_BRACE, TILDE, codes_of, is_letter

FIRST_DIGIT = 48

# The signs that can enclose a literal text, those that are preferred first.
FENCES = "|!+/\"':;,.?=*-@^_<>()"


def text_of(tokens):
    """The code points of the text of tokens."""
    codes = []
    for token in tokens:
        codes.extend(token_codes(token))
    return codes


def token_codes(token):
    value = token.value
    if token.kind == COMMAND:
        return command_codes(codes_of(value))
    if token.kind == CHARACTER:
        return [TILDE if value == HARD_BLANK else value]
    if token.kind == ESCAPED:
        return [BACKSLASH, value]
    if token.kind == PARAMETER:
        return [HASH, FIRST_DIGIT + value]
    if token.kind == MATH:
        return math_codes(value)
    if token.kind == LITERAL:
        return literal_codes(value)
    if token.kind == CODE:
        return content_codes("code", value[0], value[1])
    if token.kind == FORMULA:
        return content_codes("formula", value[0], value[1])
    return plain_codes_of(token.kind)


def plain_codes_of(kind):
    """The code points of a token that is the same wherever it stands."""
    if kind == SPACE:
        return [BLANK]
    if kind == PARAGRAPH:
        return [LINE_FEED, LINE_FEED]
    if kind == OPENING:
        return [LEFT_BRACE]
    if kind == CLOSING:
        return [RIGHT_BRACE]
    return [AMPERSAND]


def command_codes(name):
    if is_letter(name[0]):
        return [BACKSLASH] + name + [BLANK]
    return [BACKSLASH] + name


def math_codes(text):
    return [DOLLAR] + list(text) + [DOLLAR]


def literal_codes(text):
    """A literal text within the first sign that it doesn't contain, or the first one of all."""
    fences = [fence for fence in codes_of(FENCES) if fence not in text] + codes_of(FENCES[0])
    return codes_of("\\verb") + [fences[0]] + list(text) + [fences[0]]


def content_codes(name, label, text):
    """A code or formula with its beginning and its end."""
    return environment_codes(name, [LEFT_BRACE] + list(label) + [RIGHT_BRACE], list(text))


def environment_codes(name, arguments, content):
    """An environment with its arguments as they are written behind the name, and the lines of its content."""
    codes = codes_of("\\begin{" + name + "}") + arguments + [LINE_FEED]
    if content:
        codes.extend(content)
        codes.append(LINE_FEED)
    return codes + codes_of("\\end{" + name + "}")
