"""Writes documents in normal form as texts of the language."""

from macromarkup.entries import LISTS
from macromarkup.faults import NotExpressible
from macromarkup.lost import losses_of
from macromarkup.naming import ALIGNMENTS
from macromarkup.showing import content_codes, environment_codes
from macromarkup.signs import AMPERSAND, BACKSLASH, BLANK, LEFT_BRACKET, LINE_FEED, RIGHT_BRACKET, codes_of
from macromarkup.spelling import braced, command_with, inlines_codes, labels_codes, separated_by, target_codes


def written(document):
    """The code points of the text of a document in normal form."""
    if losses_of(document):
        raise NotExpressible()
    return blocks_codes(document.children)


def blocks_codes(blocks):
    # Blocks hold blocks at most as deep as the lists of a notation may be nested.
    return separated_by([LINE_FEED, LINE_FEED], [block_codes(block) for block in blocks])


def block_codes(block):
    """How a block is written."""
    kind = block.kind
    if kind == "para":
        return inlines_codes(block.children)
    if kind == "heading":
        return heading_codes(block)
    if kind in ("code", "formula"):
        return content_codes(kind, block.fields[0], block.fields[1])
    if kind == "rule":
        return command_with(kind, [])
    if kind == "table":
        return table_codes(block)
    if kind == "figure":
        return figure_codes(block)
    if kind in ("bullets", "numbers", "terms"):
        return entries_codes(block)
    return environment_codes(kind, argument_codes(block), blocks_codes(block.children))


def heading_codes(heading):
    level, identifier = heading.fields
    codes = command_with("heading", [])
    if identifier:
        codes.extend(bracketed(identifier))
    return codes + braced(codes_of(str(level))) + braced(inlines_codes(heading.children))


def bracketed(codes):
    return [LEFT_BRACKET] + list(codes) + [RIGHT_BRACKET]


def argument_codes(block):
    """The argument of a quote, a group or a note."""
    if block.kind == "quote":
        return []
    return braced(labels_codes(block.fields))


def entries_codes(block):
    """How a bullet list, a numbered list or a term list is written."""
    names = [name for name in LISTS if LISTS[name] == block.kind]
    arguments = []
    if block.kind == "numbers":
        arguments = bracketed(codes_of(str(block.fields[0])))
    lines = [entry_codes(entry) for entry in block.children]
    return environment_codes(names[0], arguments, separated_by([LINE_FEED], lines))


def entry_codes(entry):
    """How an item or a term with its blocks is written."""
    codes = command_with(entry.kind, [])
    blocks = entry.children
    if entry.kind == "term":
        codes.extend(braced(inlines_codes(blocks[0].children)))
        blocks = blocks[1:]
    if blocks:
        codes.append(BLANK)
    return codes + blocks_codes(blocks)


def table_codes(table):
    caption = table.children[0]
    columns = []
    for alignment in table.children[1].fields:
        columns.extend([ord(letter) for letter in ALIGNMENTS if ALIGNMENTS[letter] == alignment])
    arguments = braced(table.fields[0]) + braced(columns) + braced(inlines_codes(caption.children))
    rows = [row_codes(row) for row in table.children[2:]]
    return environment_codes(table.kind, arguments, separated_by([LINE_FEED], rows))


def row_codes(row):
    cells = [inlines_codes(cell.children) for cell in row.children]
    return separated_by([BLANK, AMPERSAND, BLANK], cells) + [BLANK, BACKSLASH, BACKSLASH]


def figure_codes(figure):
    identifier, target = figure.fields
    arguments = braced(identifier) + braced(target_codes(target))
    return environment_codes(figure.kind, arguments, inlines_codes(figure.children))
