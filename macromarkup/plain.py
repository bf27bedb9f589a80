"""The plain text of documents."""

from macromarkup.signs import BLANK, COMMA, LINE_FEED, TAB
from macromarkup.spelling import separated_by


def plain_blocks(blocks):
    """The code points of the plain text of blocks."""
    # Blocks hold blocks at most as deep as the lists of a notation may be nested.
    codes = []
    for block in blocks:
        codes.extend(plain_block(block))
    return codes


def plain_block(block):
    """The plain text of a block, or of an item or an entry of a list."""
    if block.kind in ("para", "heading", "figure"):
        return plain_line(block)
    if block.kind in ("code", "formula"):
        return list(block.fields[1]) + [LINE_FEED]
    if block.kind == "table":
        return plain_table(block)
    if block.kind == "term":
        return plain_line(block.children[0]) + plain_blocks(block.children[1:])
    return plain_blocks(block.children)


def plain_line(holder):
    """The plain text of the inline elements in a node, and a line feed."""
    return plain_inlines(holder.children) + [LINE_FEED]


def plain_table(table):
    caption = table.children[0]
    codes = []
    if caption.children:
        codes.extend(plain_line(caption))
    for row in table.children[2:]:
        codes.extend(separated_by([TAB], [plain_inlines(cell.children) for cell in row.children]))
        codes.append(LINE_FEED)
    return codes


def plain_inlines(items):
    """The code points of the plain text of inline elements."""
    codes = []
    for item in items:
        if isinstance(item, int):
            codes.append(item)
        else:
            codes.extend(plain_element(item))
    return codes


def plain_element(node):
    """The plain text of an inline element other than a text."""
    if node.kind in ("code", "math", "ref"):
        return list(node.fields[0])
    if node.kind == "break":
        return [LINE_FEED]
    if node.kind == "noteref":
        return []
    if node.kind == "cite":
        return separated_by([COMMA, BLANK], node.fields)
    return plain_inlines(node.children)
