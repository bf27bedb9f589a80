"""Roman numbers."""

GREATEST_ROMAN = 3999
ROMAN_PARTS = (
    (1000, "m"), (900, "cm"), (500, "d"), (400, "cd"), (100, "c"), (90, "xc"), (50, "l"), (40, "xl"),
    (10, "x"), (9, "ix"), (5, "v"), (4, "iv"), (1, "i"),
)


def roman_text(value):
    """A number from 1 to 3999 as a Roman number in lowercase letters."""
    text = ""
    for part, letters in ROMAN_PARTS:
        text += letters * (value // part)
        value = value % part
    return text
