"""Arguments of commands.

The tokens that are still to be read lie in a list from the last one to the first one, so that the
next one is taken from its end.
"""

from macromarkup.faults import INVALID, MISSING, NOT_CLOSED, TextFault
from macromarkup.lexis import CLOSING, MARK, OPENING, PARAGRAPH, SPACE, is_character, sign_code
from macromarkup.signs import LEFT_BRACKET, RIGHT_BRACKET, is_digit, is_label, name_of, trimmed

MOST_DIGITS = 6


def skip_spaces(rest):
    while rest and rest[-1].kind == SPACE:
        rest.pop()


def take_argument(rest, command):
    """The tokens of an argument: those in a group, or a single token."""
    skip_spaces(rest)
    if not rest or rest[-1].kind in (MARK, PARAGRAPH, CLOSING):
        raise TextFault(MISSING, command.position)
    first = rest.pop()
    if first.kind == OPENING:
        return take_content(rest, first)
    return [first]


def take_content(rest, opening):
    """The tokens of a group behind its opening token; its closing token is taken, too."""
    content = []
    depth = 1
    while rest and rest[-1].kind != MARK:
        token = rest.pop()
        depth += depth_change(token)
        if depth == 0:
            return content
        content.append(token)
    raise TextFault(NOT_CLOSED, opening.position)


def depth_change(token):
    if token.kind == OPENING:
        return 1
    if token.kind == CLOSING:
        return -1
    return 0


def take_optional(rest):
    """The tokens of an optional argument; None, and nothing is taken, if there is none."""
    at = len(rest) - 1
    while at >= 0 and rest[at].kind == SPACE:
        at -= 1
    if at < 0 or not is_character(rest[at], LEFT_BRACKET):
        return None
    skip_spaces(rest)
    return take_brackets(rest, rest.pop())


def take_brackets(rest, bracket):
    """The tokens up to the bracket that belongs to this one; that one is taken, too."""
    content = []
    depth = 0
    while rest and rest[-1].kind != MARK:
        token = rest.pop()
        if depth == 0 and is_character(token, RIGHT_BRACKET):
            return content
        depth += depth_change(token)
        if depth < 0:
            break
        content.append(token)
    raise TextFault(NOT_CLOSED, bracket.position)


def plain_codes(tokens, command):
    """The code points of an argument that may have characters, escaped ones and spaces, without spaces at its ends."""
    codes = []
    for token in tokens:
        code = sign_code(token)
        if code is None:
            raise TextFault(INVALID, command.position)
        codes.append(code)
    return tuple(trimmed(codes))


def label_of(tokens, command):
    """The code points of an argument that is a label."""
    codes = plain_codes(tokens, command)
    if not is_label(codes):
        raise TextFault(INVALID, command.position)
    return codes


def name_in(tokens, command):
    """An argument that is a label, as a text of the program."""
    return name_of(label_of(tokens, command))


def number_of(tokens, command):
    """The value of an argument that is a number of one to six digits."""
    codes = plain_codes(tokens, command)
    if not 1 <= len(codes) <= MOST_DIGITS or not all([is_digit(code) for code in codes]):
        raise TextFault(INVALID, command.position)
    return int(name_of(codes))
