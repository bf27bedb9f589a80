"""Reads blocks: headings, paragraphs and environments of blocks."""

from macromarkup.arguments import label_of, name_in, number_of, take_optional
from macromarkup.entries import LISTS, begin_list
from macromarkup.faults import INVALID, NOT_ALLOWED, TextFault
from macromarkup.frames import BLOCKS, LINE, enter_braces, take_end, take_group
from macromarkup.language import HEADINGS, MOST_LEVELS
from macromarkup.lexis import CELL_MARK, CLOSING, CODE, COMMAND, FORMULA, PARAGRAPH, SPACE
from macromarkup.naming import labels_of
from macromarkup.nodes import Node
from macromarkup.tables import begin_figure, begin_table


def read_block(reading):
    """Reads one token, or a command with its arguments, where blocks stand."""
    frame = reading.frames[-1]
    token = reading.rest[-1]
    if token.kind in (SPACE, PARAGRAPH):
        reading.rest.pop()
    elif token.kind == CODE:
        frame.node.children.append(Node("code", reading.rest.pop().value, []))
    elif token.kind == FORMULA:
        frame.node.children.append(Node("formula", reading.rest.pop().value, []))
    elif token.kind in (CELL_MARK, CLOSING):
        raise TextFault(NOT_ALLOWED, token.position)
    elif token.kind == COMMAND:
        read_block_command(reading, frame.node, token)
    else:
        begin_paragraph(reading, frame.node)


def read_block_command(reading, parent, command):
    name = command.value
    if name in HEADINGS or name == "heading":
        begin_heading(reading, parent, reading.rest.pop())
    elif name == "rule":
        reading.rest.pop()
        parent.children.append(Node("rule", (), []))
    elif name == "begin":
        begin_environment(reading, parent, reading.rest.pop())
    elif name in ("item", "term", "end"):
        end_blocks(reading, parent, command)
    else:
        begin_paragraph(reading, parent)


def begin_paragraph(reading, parent):
    paragraph = Node("para", (), [])
    parent.children.append(paragraph)
    reading.enter(LINE, paragraph, None)


def begin_heading(reading, parent, command):
    label = take_optional(reading.rest)
    identifier = ()
    if label is not None:
        identifier = label_of(label, command)
    if command.value in HEADINGS:
        level = HEADINGS[command.value]
    else:
        level = number_of(take_group(reading.rest, command), command)
        if not 1 <= level <= MOST_LEVELS:
            raise TextFault(INVALID, command.position)
    heading = Node("heading", (level, identifier), [])
    parent.children.append(heading)
    enter_braces(reading, command, heading)


def end_blocks(reading, parent, command):
    """Ends the blocks of an item, an entry or an environment at a command that can end them."""
    if parent.kind in ("item", "term"):
        # The list around them says whether the command is allowed.
        reading.leave()
    elif command.value == "end":
        take_end(reading)
    else:
        raise TextFault(NOT_ALLOWED, command.position)


def begin_environment(reading, parent, command):
    name = name_in(take_group(reading.rest, command), command)
    if name in LISTS:
        begin_list(reading, parent, command, name)
    elif name == "table":
        begin_table(reading, parent, command)
    elif name == "figure":
        begin_figure(reading, parent, command)
    elif name in ("quote", "group", "note"):
        node = Node(name, fields_of(reading, command, name), [])
        parent.children.append(node)
        reading.enter(BLOCKS, node, command)
    else:
        # A code or formula that is no literal content.
        raise TextFault(NOT_ALLOWED, command.position)


def fields_of(reading, command, name):
    """What a quote, a group or a note has ahead of its blocks."""
    if name == "quote":
        return ()
    tokens = take_group(reading.rest, command)
    if name == "group":
        return labels_of(tokens, command)
    return (label_of(tokens, command),)
