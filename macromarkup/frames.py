"""What is read at a place of the tree, and the state of reading one."""

from macromarkup.arguments import skip_spaces, take_content
from macromarkup.faults import MISSING, TextFault
from macromarkup.lexis import OPENING

# Frames of blocks: the document, or the content of an environment, an item or an entry.
BLOCKS = "blocks"
# Frames of environments that hold something else, or whose content has been read already.
ENTRIES = "entries"
ROWS = "rows"
FIGURE = "figure"
# Frames of inline elements: a paragraph, the inside of a group, a cell and the caption of a figure.
LINE = "line"
BRACES = "braces"
CELL = "cell"
CAPTION = "caption"


class Frame:
    """Something that is being read: in which mode, the node that is filled, and the command it began with."""

    def __init__(self, mode, node, begin):
        self.mode = mode
        self.node = node
        self.begin = begin


def is_in_line(frame):
    """Whether inline elements stand in the frame."""
    return frame.mode in (LINE, BRACES, CELL, CAPTION)


class Reading:
    """The state of reading a tree: the tokens from the last one to the next one, and the frames around the place."""

    def __init__(self, tokens, document):
        self.rest = list(reversed(tokens))
        self.frames = [Frame(BLOCKS, document, None)]

    def enter(self, mode, node, begin):
        self.frames.append(Frame(mode, node, begin))

    def leave(self):
        self.frames.pop()


def take_opening(rest, command):
    """Takes the opening token of a group that is an argument."""
    skip_spaces(rest)
    if not rest or rest[-1].kind != OPENING:
        raise TextFault(MISSING, command.position)
    return rest.pop()


def take_group(rest, command):
    """The tokens of a group that is an argument."""
    return take_content(rest, take_opening(rest, command))


def enter_braces(reading, command, node):
    """Begins an inline argument, whose content the node gets."""
    take_opening(reading.rest, command)
    reading.enter(BRACES, node, command)


def take_end(reading):
    """Takes the end of an environment with its name; the expansion has seen to it that it is the right one."""
    command = reading.rest.pop()
    take_group(reading.rest, command)
    reading.leave()
