"""The normal form of documents."""

from macromarkup.runs import normalize_inlines

INLINE_HOLDERS = ("para", "heading", "figure", "caption", "cell", "head")
BLOCK_HOLDERS = ("document", "quote", "group", "note", "item", "term")


def normalize(document):
    """Brings a document into normal form."""
    # What a node holds is in normal form before the node is, so the nodes are gone through from the inner ones.
    for node in reversed(holders_in(document)):
        if node.kind in INLINE_HOLDERS:
            normalize_inlines(node)
        elif node.kind in BLOCK_HOLDERS:
            node.children = joined(node.children)


def holders_in(document):
    """The nodes that don't stand among inline elements, each ahead of those in it; plain groups are taken away."""
    nodes = []
    rest = [document]
    while rest:
        node = rest.pop()
        nodes.append(node)
        if node.kind in BLOCK_HOLDERS:
            node.children = without_plain_groups(node.children)
        if node.kind not in INLINE_HOLDERS:
            rest.extend(node.children)
    return nodes


def without_plain_groups(blocks):
    """The blocks with those of a group in the place of each group without classes."""
    result = []
    rest = list(reversed(blocks))
    while rest:
        block = rest.pop()
        if block.kind == "group" and not block.fields:
            rest.extend(list(reversed(block.children)))
        else:
            result.append(block)
    return result


def joined(blocks):
    """The blocks without empty ones and with neighbours joined."""
    result = []
    for block in blocks:
        if block.children or block.kind not in ("para", "quote", "group"):
            add_block(result, block)
    return result


def add_block(blocks, block):
    """Adds a block behind others, and joins it with the last one if they belong together."""
    left = []
    # Where two quotes meet, the first block of the second one meets the last block of the first one.
    while blocks and block.kind == "quote" and blocks[-1].kind == "quote":
        blocks = blocks[-1].children
        left.append((blocks, block.children[1:]))
        block = block.children[0]
    if blocks and is_continued(blocks[-1], block):
        blocks[-1].children.extend(block.children)
    else:
        blocks.append(block)
    for met, others in left:
        met.extend(others)


def is_continued(first, second):
    """Whether two lists become one."""
    if first.kind != second.kind:
        return False
    if first.kind == "numbers":
        return first.fields[0] + len(first.children) == second.fields[0]
    return first.kind == "bullets"
