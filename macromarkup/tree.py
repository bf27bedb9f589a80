"""Reads the tree of a document from expanded tokens."""

from macromarkup.blocks import read_block
from macromarkup.entries import read_entry
from macromarkup.frames import BLOCKS, ENTRIES, ROWS, Reading, is_in_line
from macromarkup.inlines import read_in_line
from macromarkup.nodes import Node
from macromarkup.tables import read_figure, read_row


def tree_of(tokens):
    """The document of the tokens, not yet in normal form."""
    document = Node("document", (), [])
    reading = Reading(tokens, document)
    while reading.rest:
        frame = reading.frames[-1]
        if is_in_line(frame):
            read_in_line(reading)
        elif frame.mode == BLOCKS:
            read_block(reading)
        elif frame.mode == ENTRIES:
            read_entry(reading)
        elif frame.mode == ROWS:
            read_row(reading)
        else:
            read_figure(reading)
    return document
