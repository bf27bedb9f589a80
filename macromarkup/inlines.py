"""Reads inline elements."""

from macromarkup.arguments import label_of
from macromarkup.faults import NOT_ALLOWED, TextFault
from macromarkup.frames import BRACES, CELL, enter_braces, take_group
from macromarkup.language import STYLES
from macromarkup.lexis import CELL_MARK, CLOSING, COMMAND, LITERAL, MATH, OPENING, PARAGRAPH, is_command, sign_code
from macromarkup.naming import keys_of, labels_of, target_of
from macromarkup.nodes import Node
from macromarkup.signs import BACKSLASH, BLANK


def read_in_line(reading):
    """Reads one token, or a command with its arguments, where inline elements stand."""
    frame = reading.frames[-1]
    token = reading.rest[-1]
    if frame.mode == CELL and ends_cell(token):
        reading.leave()
    elif token.kind == COMMAND and is_inline_command(token.value):
        read_command(reading, frame.node.children, reading.rest.pop())
    elif token.kind == OPENING:
        reading.rest.pop()
        reading.enter(BRACES, frame.node, token)
    elif is_sign(token):
        add_sign(frame.node.children, reading.rest.pop())
    else:
        leave_line(reading, frame, token)


def ends_cell(token):
    return token.kind == CELL_MARK or is_command(token, "\\") or is_command(token, "end")


def is_sign(token):
    """Whether the token is an inline element by itself."""
    return sign_code(token) is not None or token.kind in (MATH, LITERAL)


def add_sign(children, token):
    if token.kind == MATH:
        children.append(Node("math", (token.value,), []))
    elif token.kind == LITERAL:
        children.append(Node("code", (token.value,), []))
    else:
        children.append(sign_code(token))


def leave_line(reading, frame, token):
    """Ends the inline elements at a token that is none of them, if they may end there."""
    if frame.mode == CELL and token.kind == PARAGRAPH:
        reading.rest.pop()
        frame.node.children.append(BLANK)
    elif frame.mode == BRACES and token.kind == CLOSING:
        reading.rest.pop()
        reading.leave()
    elif frame.mode in (BRACES, CELL):
        raise TextFault(NOT_ALLOWED, token.position)
    else:
        # What is around a paragraph or a caption says whether the token is allowed.
        reading.leave()


def is_inline_command(name):
    return name in STYLES or name in (
        "noteref", "ref", "cite", "link", "image", "span", "newline", "\\", "backslash",
    )


def read_command(reading, children, command):
    name = command.value
    if name == "backslash":
        children.append(BACKSLASH)
    elif name in ("newline", "\\"):
        children.append(Node("break", (), []))
    elif name in ("noteref", "ref"):
        children.append(Node(name, (label_of(take_group(reading.rest, command), command),), []))
    elif name == "cite":
        children.append(Node(name, keys_of(take_group(reading.rest, command), command), []))
    else:
        node = Node(name, fields_of(reading, command), [])
        children.append(node)
        enter_braces(reading, command, node)


def fields_of(reading, command):
    """What an element with children has in front of them."""
    if command.value in STYLES:
        return ()
    tokens = take_group(reading.rest, command)
    if command.value == "span":
        return labels_of(tokens, command)
    return (target_of(tokens, command),)
