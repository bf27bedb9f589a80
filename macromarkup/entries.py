"""Reads lists: bullet lists, numbered lists and term lists."""

from macromarkup.arguments import number_of, take_optional
from macromarkup.faults import MISSING, NOT_ALLOWED, TextFault
from macromarkup.frames import BLOCKS, ENTRIES, enter_braces, take_end
from macromarkup.lexis import PARAGRAPH, SPACE, is_command
from macromarkup.nodes import Node

LISTS = {"itemize": "bullets", "enumerate": "numbers", "description": "terms"}
FIRST_NUMBER = 1


def begin_list(reading, parent, command, name):
    fields = ()
    if name == "enumerate":
        fields = (start_of(reading, command),)
    node = Node(LISTS[name], fields, [])
    parent.children.append(node)
    reading.enter(ENTRIES, node, command)


def start_of(reading, command):
    """The number of the first item."""
    number = take_optional(reading.rest)
    if number is None:
        return FIRST_NUMBER
    return number_of(number, command)


def read_entry(reading):
    """Reads one token where an item, an entry or the end of the list stands."""
    frame = reading.frames[-1]
    token = reading.rest[-1]
    if token.kind in (SPACE, PARAGRAPH):
        reading.rest.pop()
    elif is_command(token, "end"):
        take_end(reading)
        if not frame.node.children:
            raise TextFault(MISSING, frame.begin.position)
    elif is_command(token, entry_name(frame.node)):
        begin_entry(reading, frame.node, reading.rest.pop())
    else:
        raise TextFault(NOT_ALLOWED, token.position)


def entry_name(node):
    """The name of the command, and the kind of the node, of what a list consists of."""
    if node.kind == "terms":
        return "term"
    return "item"


def begin_entry(reading, parent, command):
    entry = Node(command.value, (), [])
    parent.children.append(entry)
    reading.enter(BLOCKS, entry, command)
    if command.value == "term":
        head = Node("head", (), [])
        entry.children.append(head)
        enter_braces(reading, command, head)
