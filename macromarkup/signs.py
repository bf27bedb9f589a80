"""Single characters as code points: those that the language names, and which sort one belongs to."""

TAB = 9
LINE_FEED = 10
BLANK = 32
QUOTE = 34
HASH = 35
DOLLAR = 36
PERCENT = 37
AMPERSAND = 38
COMMA = 44
LEFT_BRACKET = 91
BACKSLASH = 92
RIGHT_BRACKET = 93
LEFT_BRACE = 123
RIGHT_BRACE = 125
TILDE = 126
HARD_BLANK = 160

WHITE = (32, 9, 10, 13)
BLANKS = (32, 9)
LABEL_MARKS = (45, 46, 58, 95)
LONGEST_LABEL = 40

# The signs from U+002D on: every sign that a label or the name of a command may have is among them.
NAME_SIGNS = "-./0123456789:;<=>?@ABCDEFGHIJKLMNOPQRSTUVWXYZ[\\]^_`abcdefghijklmnopqrstuvwxyz"
FIRST_NAME_SIGN = 45


def codes_of(text):
    """The code points of a text that is written in the program."""
    return [ord(sign) for sign in text]


def name_of(codes):
    """The name that consists of these signs of labels, as a text of the program."""
    return "".join([NAME_SIGNS[code - FIRST_NAME_SIGN] for code in codes])


def is_digit(code):
    return 48 <= code <= 57


def is_letter(code):
    return 65 <= code <= 90 or 97 <= code <= 122


def is_punctuation(code):
    return 33 <= code <= 126 and not is_letter(code) and not is_digit(code)


def is_label(codes):
    """Whether these code points are a label: 1 to 40 of its signs."""
    if not 1 <= len(codes) <= LONGEST_LABEL:
        return False
    return all([is_label_sign(code) for code in codes])


def is_label_sign(code):
    return is_letter(code) or is_digit(code) or code in LABEL_MARKS


def trimmed(codes):
    """The code points without spaces at both ends."""
    start = 0
    end = len(codes)
    while start < end and codes[start] == BLANK:
        start += 1
    while end > start and codes[end - 1] == BLANK:
        end -= 1
    return codes[start:end]
