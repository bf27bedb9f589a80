"""Reads the tree of a document from expanded tokens."""

from macromarkup.blocks import read_block
from macromarkup.entries import read_entry
from macromarkup.frames import BLOCKS, ENTRIES, INLINE_MODES, ROWS, Reading
from macromarkup.inlines import read_in_line
from macromarkup.nodes import Node
from macromarkup.tables import read_figure, read_row


def tree_of(tokens):
    """The document of the tokens, not yet in normal form."""
    document = Node("document", (), [])
    reading = Reading(tokens, document)
    while reading.rest:
        mode = reading.frames[-1].mode
        if mode in INLINE_MODES:
            read_in_line(reading)
        elif mode == BLOCKS:
            read_block(reading)
        elif mode == ENTRIES:
            read_entry(reading)
        elif mode == ROWS:
            read_row(reading)
        else:
            read_figure(reading)
    return document
