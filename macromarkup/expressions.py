"""Divides notations into expressions.

A list is a list of expressions, an integer is a number, a symbol is a text of the program, and a string is a tuple of
code points.
"""

from macromarkup.faults import BadBytes, BadNotation
from macromarkup.lines import line_end
from macromarkup.notation import LEAST_PLAIN, MOST_LISTS
from macromarkup.signs import BACKSLASH, LEFT_BRACE, LINE_FEED, QUOTE, RIGHT_BRACE, TAB, WHITE, is_digit, name_of
from macromarkup.utf import decoded, is_code_point

SEMICOLON = 59
LEFT_PARENTHESIS = 40
RIGHT_PARENTHESIS = 41
HYPHEN = 45
SMALL_A = 97
SMALL_N = 110
SMALL_T = 116
SMALL_U = 117
SMALL_Z = 122
MOST_DIGITS = 6
MOST_HEXADECIMAL = 6


def expressions_of(data):
    """The expressions that the bytes of a notation consist of."""
    found = []
    around = []
    at = 0
    while at < len(data):
        if data[at] in WHITE:
            at += 1
        elif data[at] == SEMICOLON:
            at = line_end(data, at)
        elif data[at] == LEFT_PARENTHESIS:
            if len(around) == MOST_LISTS:
                raise BadNotation()
            around.append(found)
            found = []
            at += 1
        elif data[at] == RIGHT_PARENTHESIS:
            if not around:
                raise BadNotation()
            around[-1].append(found)
            found = around.pop()
            at += 1
        else:
            end = atom_end(data, at)
            found.append(atom_of(data[at:end]))
            at = end
    if around:
        raise BadNotation()
    return found


def atom_end(data, at):
    """Where the string, the integer or the symbol ends that begins here."""
    if data[at] == QUOTE:
        return string_end(data, at + 1)
    end = at
    if is_digit(data[at]):
        while end < len(data) and is_digit(data[end]):
            end += 1
    elif is_small_letter(data[at]):
        while end < len(data) and is_symbol_sign(data[end]):
            end += 1
    else:
        raise BadNotation()
    return end


def string_end(data, at):
    """Where the string ends whose content begins here."""
    while at < len(data) and data[at] != QUOTE:
        if data[at] == BACKSLASH:
            at += 1
        at += 1
    if at >= len(data):
        raise BadNotation()
    return at + 1


def is_small_letter(byte):
    return SMALL_A <= byte <= SMALL_Z


def is_symbol_sign(byte):
    return is_small_letter(byte) or is_digit(byte) or byte == HYPHEN


def atom_of(data):
    """The string, the integer or the symbol that the bytes are."""
    if data[0] == QUOTE:
        return string_of(data[1:-1])
    name = name_of(data)
    if is_small_letter(data[0]):
        return name
    if len(name) > MOST_DIGITS or len(name) > 1 and name[0] == "0":
        raise BadNotation()
    return int(name)


def string_of(data):
    """The code points of a string with this content between its quotation marks."""
    try:
        codes = decoded(data)
    except BadBytes:
        raise BadNotation()
    text = []
    at = 0
    while at < len(codes):
        code = codes[at]
        at += 1
        if code < LEAST_PLAIN:
            raise BadNotation()
        if code == BACKSLASH:
            code, at = escape_of(codes, at)
        text.append(code)
    return tuple(text)


def escape_of(codes, at):
    """The code point that an escape sequence stands for, and where it ends; behind its backslash it begins here."""
    after = at + 1
    if codes[at] in (QUOTE, BACKSLASH):
        return (codes[at], after)
    if codes[at] == SMALL_N:
        return (LINE_FEED, after)
    if codes[at] == SMALL_T:
        return (TAB, after)
    if codes[at:after + 1] != [SMALL_U, LEFT_BRACE]:
        raise BadNotation()
    return numbered_escape(codes, after + 1)


def numbered_escape(codes, start):
    """The same for an escape sequence whose hexadecimal digits begin here."""
    value = 0
    end = start
    while end < len(codes) and is_hexadecimal(codes[end]):
        value = value * 16 + digit_value(codes[end])
        end += 1
    if not 1 <= end - start <= MOST_HEXADECIMAL or codes[end:end + 1] != [RIGHT_BRACE]:
        raise BadNotation()
    if not is_code_point(value):
        raise BadNotation()
    return (value, end + 1)


def is_hexadecimal(code):
    return is_digit(code) or SMALL_A <= code < SMALL_A + 6


def digit_value(code):
    if is_digit(code):
        return code - 48
    return code - SMALL_A + 10
