"""Lines of texts; a line feed ends a line."""

from macromarkup.signs import LINE_FEED


def line_end(codes, at):
    """Where the next line begins, or the end of the text if there is none."""
    while at < len(codes) and codes[at] != LINE_FEED:
        at += 1
    return min(at + 1, len(codes))


def line_with(codes, at, beginning):
    """Where the first line begins, from the one that begins at this place on, that begins so; None if there is none."""
    while codes[at:at + len(beginning)] != beginning:
        if at == len(codes):
            return None
        at = line_end(codes, at)
    return at
