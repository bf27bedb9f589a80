"""Tokens and their kinds."""

from macromarkup.signs import BLANK

COMMAND = 1
CHARACTER = 2
ESCAPED = 3
SPACE = 4
PARAGRAPH = 5
OPENING = 6
CLOSING = 7
PARAMETER = 8
CELL_MARK = 9
MATH = 10
LITERAL = 11
CODE = 12
FORMULA = 13

# A mark isn't a token, but it stands among the tokens of the input of the expansion.
MARK = 0


class Token:
    """A token, which nobody changes once it is made.

    Its value: the name of a command (a text), a character's code point, a parameter's digit,
    the code points of a math or literal text, the label and the code points of a code or formula,
    the name of the environment of a mark; otherwise None.
    """

    def __init__(self, kind, position, value):
        self.kind = kind
        self.position = position
        self.value = value


def is_character(token, code):
    """Whether the token is this character, not escaped."""
    return token.kind == CHARACTER and token.value == code


def is_command(token, name):
    return token.kind == COMMAND and token.value == name


def sign_code(token):
    """The code point that a character, an escaped one or a space stands for; None for any other token."""
    if token.kind == SPACE:
        return BLANK
    if token.kind in (CHARACTER, ESCAPED):
        return token.value
    return None


def characters(text, position):
    """The characters of a text that is written in the program, all at one position."""
    return [Token(CHARACTER, position, ord(sign)) for sign in text]
