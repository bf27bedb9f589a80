"""Documents from the expressions of a notation."""

from macromarkup.expressions import expressions_of
from macromarkup.faults import BadNotation
from macromarkup.language import MOST_LEVELS
from macromarkup.naming import ALIGNMENTS
from macromarkup.nodes import Node
from macromarkup.parts import Parts, parts_of, take_classes
from macromarkup.phrases import inlines_from


def document_from(data):
    """The document of a notation, not yet in normal form."""
    return Node("document", (), blocks_from(expressions_of(data)))


def blocks_from(expressions):
    # Blocks hold blocks at most as deep as lists of a notation may be nested.
    return [block_from(Parts(expression)) for expression in expressions]


def block_from(parts):
    fields = fields_from(parts)
    return Node(parts.symbol, fields, children_from(parts))


def fields_from(parts):
    """What a block has ahead of its children."""
    kind = parts.symbol
    if kind in ("para", "rule", "quote", "bullets", "terms"):
        return ()
    if kind == "heading":
        return (level_from(parts), parts.take_identifier())
    if kind in ("code", "formula", "figure"):
        return (parts.take_identifier(), parts.take_string())
    if kind == "numbers":
        return (parts.take_number(),)
    if kind == "table":
        return (parts.take_identifier(),)
    if kind == "group":
        return take_classes(parts)
    if kind == "note":
        return (parts.take_label(),)
    raise BadNotation()


def level_from(parts):
    level = parts.take_number()
    if not 1 <= level <= MOST_LEVELS:
        raise BadNotation()
    return level


def children_from(parts):
    kind = parts.symbol
    if kind in ("para", "heading", "figure"):
        return inlines_from(parts.take_others())
    if kind in ("quote", "group", "note"):
        return blocks_from(parts.take_others())
    if kind in ("bullets", "numbers"):
        return [item_from(expression) for expression in parts.take_some()]
    if kind == "terms":
        return [entry_from(expression) for expression in parts.take_some()]
    if kind == "table":
        return table_parts_from(parts)
    if parts.take_others():
        raise BadNotation()
    return []


def item_from(expression):
    return Node("item", (), blocks_from(parts_of(expression, "item").take_others()))


def entry_from(expression):
    """An entry of a term list: its term, and its blocks."""
    parts = parts_of(expression, "term")
    term = parts.take()
    if not isinstance(term, list):
        raise BadNotation()
    return Node("term", (), [Node("head", (), inlines_from(term))] + blocks_from(parts.take_others()))


def table_parts_from(parts):
    """The caption, the alignments and the rows of a table."""
    caption = Node("caption", (), inlines_from(parts_of(parts.take(), "caption").take_others()))
    alignments = parts_of(parts.take(), "align").take_some()
    known = [ALIGNMENTS[letter] for letter in ALIGNMENTS]
    if not all([alignment in known for alignment in alignments]):
        raise BadNotation()
    rows = [row_from(expression, len(alignments)) for expression in parts.take_some()]
    return [caption, Node("align", tuple(alignments), [])] + rows


def row_from(expression, columns):
    cells = [cell_from(cell) for cell in parts_of(expression, "row").take_others()]
    if len(cells) != columns:
        raise BadNotation()
    return Node("row", (), cells)


def cell_from(expression):
    return Node("cell", (), inlines_from(parts_of(expression, "cell").take_others()))
