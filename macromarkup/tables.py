"""Reads tables and figures."""

from macromarkup.faults import INVALID, NOT_ALLOWED, TextFault
from macromarkup.frames import CAPTION, CELL, FIGURE, ROWS, enter_braces, take_end, take_group
from macromarkup.lexis import CELL_MARK, PARAGRAPH, SPACE, is_command
from macromarkup.naming import alignments_of, identifier_of, target_of
from macromarkup.nodes import Node
from macromarkup.signs import WHITE


def begin_table(reading, parent, command):
    identifier = identifier_of(take_group(reading.rest, command), command)
    alignments = alignments_of(take_group(reading.rest, command), command)
    caption = Node("caption", (), [])
    table = Node("table", (identifier,), [caption, Node("align", alignments, [])])
    parent.children.append(table)
    reading.enter(ROWS, table, command)
    begin_row(reading, table)
    enter_braces(reading, command, caption)


def begin_row(reading, table):
    row = Node("row", (), [])
    table.children.append(row)
    begin_cell(reading, row)


def begin_cell(reading, row):
    cell = Node("cell", (), [])
    row.children.append(cell)
    reading.enter(CELL, cell, None)


def read_row(reading):
    """Reads what ended a cell: a cell mark, the end of the row or the end of the table."""
    frame = reading.frames[-1]
    token = reading.rest[-1]
    if token.kind == CELL_MARK:
        reading.rest.pop()
        begin_cell(reading, frame.node.children[-1])
    elif is_command(token, "\\"):
        reading.rest.pop()
        begin_row(reading, frame.node)
    else:
        take_end(reading)
        finish_table(frame.node, frame.begin)


def finish_table(table, command):
    """Leaves out a blank last row and checks what is left."""
    if is_blank_row(table.children[-1]):
        table.children.pop()
    alignments = table.children[1].fields
    rows = table.children[2:]
    if not rows or any([len(row.children) != len(alignments) for row in rows]):
        raise TextFault(INVALID, command.position)


def is_blank_row(row):
    """Whether the row has only one cell, which contains nothing but white space."""
    if len(row.children) != 1:
        return False
    return all([isinstance(part, int) and part in WHITE for part in row.children[0].children])


def begin_figure(reading, parent, command):
    identifier = identifier_of(take_group(reading.rest, command), command)
    target = target_of(take_group(reading.rest, command), command)
    figure = Node("figure", (identifier, target), [])
    parent.children.append(figure)
    while reading.rest and reading.rest[-1].kind in (SPACE, PARAGRAPH):
        reading.rest.pop()
    reading.enter(FIGURE, figure, command)
    reading.enter(CAPTION, figure, command)


def read_figure(reading):
    """Reads one token behind the caption of a figure."""
    token = reading.rest[-1]
    if token.kind in (SPACE, PARAGRAPH):
        reading.rest.pop()
    elif is_command(token, "end"):
        take_end(reading)
    else:
        raise TextFault(NOT_ALLOWED, token.position)
