"""Divides a text into tokens."""

from macromarkup.faults import BAD_DEFINITION, INVALID, MISSING, NOT_CLOSED, UNKNOWN_NAME, TextFault
from macromarkup.lexis import CELL_MARK, CHARACTER, CLOSING, CODE, COMMAND, ESCAPED, FORMULA, LITERAL, MATH, OPENING
from macromarkup.lexis import PARAGRAPH, PARAMETER, SPACE, Token
from macromarkup.lines import line_end, line_with
from macromarkup.signs import AMPERSAND, BACKSLASH, BLANK, BLANKS, DOLLAR, HARD_BLANK, HASH, LEFT_BRACE, LINE_FEED
from macromarkup.signs import LONGEST_LABEL, PERCENT, RIGHT_BRACE, TILDE, WHITE, codes_of, is_label_sign, is_letter
from macromarkup.signs import is_punctuation, name_of


class Scanner:
    """The code points of a text, how far they have been read, and the tokens found so far."""

    def __init__(self, codes):
        self.codes = codes
        self.at = 0
        self.found = []

    def put(self, kind, end, value):
        """Takes what lies before the end as a token."""
        self.found.append(Token(kind, self.at, value))
        self.at = end


def scanned(codes):
    """The list of the tokens of a text."""
    scanner = Scanner(codes)
    while scanner.at < len(codes):
        scan_one(scanner)
    return scanner.found


def scan_one(scanner):
    """Takes one token or one comment."""
    code = scanner.codes[scanner.at]
    after = scanner.at + 1
    if code in WHITE:
        scan_white(scanner)
    elif code == PERCENT:
        skip_comment(scanner)
    elif code == LEFT_BRACE:
        scanner.put(OPENING, after, None)
    elif code == RIGHT_BRACE:
        scanner.put(CLOSING, after, None)
    elif code == AMPERSAND:
        scanner.put(CELL_MARK, after, None)
    elif code == TILDE:
        scanner.put(CHARACTER, after, HARD_BLANK)
    elif code == HASH:
        scan_parameter(scanner)
    elif code == DOLLAR:
        scan_math(scanner)
    elif code == BACKSLASH:
        scan_backslash(scanner)
    else:
        scanner.put(CHARACTER, after, code)


def white_end(codes, at):
    """Where the white space ends that begins here, if any does."""
    while at < len(codes) and codes[at] in WHITE:
        at += 1
    return at


def is_paragraph(white):
    return white.count(LINE_FEED) >= 2


def scan_white(scanner):
    end = white_end(scanner.codes, scanner.at)
    if is_paragraph(scanner.codes[scanner.at:end]):
        scanner.put(PARAGRAPH, end, None)
    else:
        scanner.put(SPACE, end, None)


def skip_comment(scanner):
    codes = scanner.codes
    at = line_end(codes, scanner.at)
    while at < len(codes) and codes[at] in BLANKS:
        at += 1
    scanner.at = at


def scan_parameter(scanner):
    digit = scanner.codes[scanner.at + 1:scanner.at + 2]
    if not digit or not 49 <= digit[0] <= 57:
        raise TextFault(BAD_DEFINITION, scanner.at)
    scanner.put(PARAMETER, scanner.at + 2, digit[0] - 48)


def scan_math(scanner):
    codes = scanner.codes
    start = scanner.at + 1
    end = start
    while end < len(codes) and codes[end] != DOLLAR:
        end += 1
    if end == len(codes):
        raise TextFault(NOT_CLOSED, scanner.at)
    if end == start:
        raise TextFault(INVALID, scanner.at)
    scanner.put(MATH, end + 1, tuple(codes[start:end]))


def scan_backslash(scanner):
    after = scanner.at + 2
    follower = scanner.codes[scanner.at + 1:after]
    if not follower:
        raise TextFault(UNKNOWN_NAME, scanner.at)
    if is_letter(follower[0]):
        scan_name(scanner)
    elif follower[0] == BACKSLASH:
        scanner.put(COMMAND, after, "\\")
    elif follower[0] == BLANK or is_punctuation(follower[0]):
        scanner.put(ESCAPED, after, follower[0])
    else:
        raise TextFault(UNKNOWN_NAME, scanner.at)


def scan_name(scanner):
    """Takes a command whose name consists of letters, or what its name begins."""
    codes = scanner.codes
    end = scanner.at + 1
    while end < len(codes) and is_letter(codes[end]):
        end += 1
    name = name_of(codes[scanner.at + 1:end])
    if name == "verb":
        scan_verb(scanner, end)
    elif name != "begin" or not scan_content(scanner):
        scanner.put(COMMAND, end, name)
        skip_white(scanner)


def skip_white(scanner):
    """Leaves out the white space behind a command, unless it is a paragraph."""
    end = white_end(scanner.codes, scanner.at)
    if not is_paragraph(scanner.codes[scanner.at:end]):
        scanner.at = end


def scan_verb(scanner, start):
    """Takes a literal text; the sign that encloses it stands at the start."""
    codes = scanner.codes
    if start == len(codes) or codes[start] in WHITE:
        raise TextFault(MISSING, scanner.at)
    end = start + 1
    while end < len(codes) and codes[end] != codes[start] and codes[end] != LINE_FEED:
        end += 1
    if end == len(codes) or codes[end] != codes[start]:
        raise TextFault(NOT_CLOSED, scanner.at)
    scanner.put(LITERAL, end + 1, tuple(codes[start + 1:end]))


def scan_content(scanner):
    """Takes literal content; tells whether there is some here."""
    return scan_content_of(scanner, "code", CODE) or scan_content_of(scanner, "formula", FORMULA)


def scan_content_of(scanner, name, kind):
    """Takes literal content of this name; tells whether its first line has exactly the form for it."""
    codes = scanner.codes
    head = codes_of("\\begin{" + name + "}{")
    start = scanner.at + len(head)
    if codes[scanner.at:start] != head:
        return False
    end = start
    while end < len(codes) and is_label_sign(codes[end]):
        end += 1
    if end - start > LONGEST_LABEL or codes[end:end + 2] != [RIGHT_BRACE, LINE_FEED]:
        return False
    put_content(scanner, kind, tuple(codes[start:end]), end + 2, codes_of("\\end{" + name + "}"))
    return True


def put_content(scanner, kind, label, start, tail):
    """Takes the literal content that begins at the start, up to the first line that begins with the tail."""
    codes = scanner.codes
    line = line_with(codes, start, tail)
    if line is None:
        raise TextFault(NOT_CLOSED, scanner.at)
    # The last character of the content is left out, but there is none if the tail follows at once.
    text = tuple(codes[start:max(start, line - 1)])
    scanner.put(kind, line + len(tail), (label, text))
