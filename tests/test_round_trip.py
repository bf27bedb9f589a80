"""Trees of all elements: their text, their losses and what is read from the text, by the words of the document.

The trees are made by a row of numbers that is the same each time. A block is a tuple of its kind, a tuple of what it
has ahead of its children, and its children; inline elements are those of test_model.
"""

import unittest

from helper import Case, shown
from macromarkup import markup
from test_model import LEAVES, STYLES, Numbers, inline_notation, normal_inlines, notation, quoted

LABELS = ("a", "b-1", "C.d:e_f")
TEXTS = ("a", "b", " ", "a ", "\t b", "c\nd", "", "[x] {y}", "\\", "$%&#~", "\u00e4\u00a0", "\x0b", ";(\"")
CODES = ("q", "|", "", "a b", "|!+/\"':;,.?=*-@^_<>(", "\\end{code}", "a\n", "|!+/\"':;,.?=*-@^_<>()")
MATHS = ("x", "x", "\\", " \n\n", "{%", "", "$")
TARGETS = ("t", "a b", "\\[%]", "", "u", "\n", "\t")
CONTENTS = ("x", "", "\n", "x\ny\n", "\\begin{code}{}\n$%", "a\\end{code}", "\\end{code}", "x\n\\end{formula}y", "\r\0")
ALIGNMENTS = {"none": "n", "left": "l", "center": "c", "right": "r"}
FENCES = "|!+/\"':;,.?=*-@^_<>()"
BLOCKS = (
    "para", "para", "para", "heading", "code", "formula", "rule", "quote", "quote", "bullets", "bullets", "numbers",
    "numbers", "terms", "table", "figure", "group", "group", "note",
)


def make_list(numbers, bound, make):
    return [make() for count in range(numbers.below(bound))]


def make_inlines(numbers, depth):
    return make_list(numbers, 5, lambda: make_inline(numbers, depth))


def make_inline(numbers, depth):
    kind = numbers.one_of(("text", "text", "text", "style", "link", "span", "image") + LEAVES)
    if kind == "code":
        return (kind, numbers.one_of(CODES))
    if kind == "math":
        return (kind, numbers.one_of(MATHS))
    if kind in ("ref", "noteref"):
        return (kind, numbers.one_of(LABELS))
    if kind == "cite":
        return (kind, numbers.one_of(LABELS)) + tuple(make_list(numbers, 3, lambda: numbers.one_of(LABELS)))
    if kind == "break":
        return (kind,)
    if kind == "text" or depth == 0:
        return ("text", numbers.one_of(TEXTS))
    children = make_inlines(numbers, depth - 1)
    if kind == "style":
        return (numbers.one_of(STYLES), None, children)
    if kind == "span":
        return (kind, tuple(make_list(numbers, 3, lambda: numbers.one_of(LABELS))), children)
    return (kind, numbers.one_of(TARGETS), children)


def make_blocks(numbers, depth):
    return make_list(numbers, 4, lambda: make_block(numbers, depth))


def make_block(numbers, depth):
    kind = numbers.one_of(BLOCKS)
    identifier = numbers.one_of(LABELS + ("",))
    if kind in ("quote", "group", "note", "bullets", "numbers", "terms") and depth == 0:
        kind = "para"
    if kind == "heading":
        return (kind, (1 + numbers.below(6), identifier), make_inlines(numbers, depth))
    if kind in ("code", "formula"):
        return (kind, (identifier, numbers.one_of(CONTENTS)), [])
    if kind == "table":
        return (kind, (identifier,), make_table(numbers, depth))
    if kind == "figure":
        return (kind, (identifier, numbers.one_of(TARGETS)), make_inlines(numbers, depth))
    if kind == "group":
        return (kind, tuple(make_list(numbers, 3, lambda: numbers.one_of(LABELS))), make_blocks(numbers, depth - 1))
    if kind == "note":
        return (kind, (numbers.one_of(LABELS),), make_blocks(numbers, depth - 1))
    if kind == "quote":
        return (kind, (), make_blocks(numbers, depth - 1))
    if kind in ("bullets", "numbers"):
        fields = (numbers.below(3),) if kind == "numbers" else ()
        return (kind, fields, [make_blocks(numbers, depth - 1) for count in range(1 + numbers.below(2))])
    if kind == "terms":
        return (kind, (), [
            (make_inlines(numbers, 1), make_blocks(numbers, depth - 1)) for count in range(1 + numbers.below(2))
        ])
    return (kind, (), make_inlines(numbers, depth) if kind == "para" else [])


def make_table(numbers, depth):
    columns = [numbers.one_of(tuple(ALIGNMENTS)) for count in range(1 + numbers.below(2))]
    rows = [[make_inlines(numbers, 1) for column in columns] for count in range(1 + numbers.below(2))]
    return (make_inlines(numbers, 1), columns, rows)


def normal_blocks(blocks):
    result = []
    for kind, fields, children in blocks:
        if kind in ("para", "heading", "figure"):
            children = normal_inlines(children)
        elif kind in ("quote", "group", "note"):
            children = normal_blocks(children)
        elif kind in ("bullets", "numbers"):
            children = [normal_blocks(item) for item in children]
        elif kind == "terms":
            children = [(normal_inlines(term), normal_blocks(inner)) for term, inner in children]
        elif kind == "table":
            caption, columns, rows = children
            children = (normal_inlines(caption), columns, [[normal_inlines(cell) for cell in row] for row in rows])
        if kind == "group" and not fields:
            result.extend(children)
        elif children or kind not in ("para", "quote", "group"):
            result.append((kind, fields, children))
    return joined(result)


def joined(blocks):
    result = []
    for block in blocks:
        kind, fields, children = result[-1] if result else ("none", (), [])
        if block[0] == kind == "quote":
            result[-1] = (kind, fields, joined(children + block[2]))
        elif block[0] == kind == "bullets" or (
            block[0] == kind == "numbers" and fields[0] + len(children) == block[1][0]
        ):
            result[-1] = (kind, fields, children + block[2])
        else:
            result.append(block)
    return result


def blocks_notation(blocks):
    return [block_notation(*block) for block in blocks]


def inlines_notation(elements):
    return [inline_notation(element) for element in elements]


def block_notation(kind, fields, children):
    parts = [str(field) if isinstance(field, int) else quoted(field) for field in fields]
    if kind == "group":
        parts = [notation(["class"] + parts)]
    if kind in ("para", "heading", "figure"):
        parts += inlines_notation(children)
    elif kind in ("bullets", "numbers"):
        parts += [notation(["item"] + blocks_notation(item)) for item in children]
    elif kind == "terms":
        for term, inner in children:
            parts.append(notation(["term", notation(inlines_notation(term))] + blocks_notation(inner)))
    elif kind == "table":
        caption, columns, rows = children
        parts += [notation(["caption"] + inlines_notation(caption)), notation(["align"] + columns)]
        parts += [notation(["row"] + [notation(["cell"] + inlines_notation(cell)) for cell in row]) for row in rows]
    else:
        parts += blocks_notation(children)
    return notation([kind] + parts)


def inlines_text(elements):
    return "".join([inline_text(*element) for element in elements])


def escaped(text):
    return "".join(["\\backslash{}" if sign == "\\" else "\\" + sign if sign in "{}$%&#~[]" else sign for sign in text])


def inline_text(kind, *parts):
    if kind == "text":
        return escaped(parts[0])
    if kind == "code":
        fence = [sign for sign in FENCES if sign not in parts[0]][0]
        return "\\verb" + fence + parts[0] + fence
    if kind == "math":
        return "$" + parts[0] + "$"
    if kind == "break":
        return "\\newline{}"
    if kind in LEAVES:
        return "\\" + kind + "{" + ",".join(parts) + "}"
    content = "{" + inlines_text(parts[1]) + "}"
    if kind in STYLES:
        return "\\" + kind + content
    front = ",".join(parts[0]) if kind == "span" else escaped(parts[0]).replace(" ", "\\ ")
    return "\\" + kind + "{" + front + "}" + content


def blocks_text(blocks):
    return "\n\n".join([block_text(*block) for block in blocks])


def environment(name, arguments, content):
    return "\\begin{" + name + "}" + arguments + "\n" + (content + "\n" if content else "") + "\\end{" + name + "}"


def item_text(front, blocks):
    return front + " " + blocks_text(blocks) if blocks else front


def block_text(kind, fields, children):
    if kind == "para":
        return inlines_text(children)
    if kind == "heading":
        front = "[" + fields[1] + "]" if fields[1] else ""
        return "\\heading" + front + "{" + str(fields[0]) + "}{" + inlines_text(children) + "}"
    if kind in ("code", "formula"):
        return environment(kind, "{" + fields[0] + "}", fields[1])
    if kind == "rule":
        return "\\rule"
    if kind == "bullets":
        return environment("itemize", "", "\n".join([item_text("\\item", item) for item in children]))
    if kind == "numbers":
        return environment("enumerate", "[" + str(fields[0]) + "]",
                           "\n".join([item_text("\\item", item) for item in children]))
    if kind == "terms":
        return environment("description", "", "\n".join([
            item_text("\\term{" + inlines_text(term) + "}", inner) for term, inner in children
        ]))
    if kind == "table":
        caption, columns, rows = children
        letters = "".join([ALIGNMENTS[column] for column in columns])
        arguments = "{" + fields[0] + "}{" + letters + "}{" + inlines_text(caption) + "}"
        return environment(kind, arguments, "\n".join([
            " & ".join([inlines_text(cell) for cell in row]) + " \\\\" for row in rows
        ]))
    if kind == "figure":
        arguments = "{" + fields[0] + "}{" + escaped(fields[1]).replace(" ", "\\ ") + "}"
        return environment(kind, arguments, inlines_text(children))
    return environment(kind, "" if kind == "quote" else "{" + ",".join(fields) + "}", blocks_text(children))


def inlines_lost(elements):
    kinds = []
    for kind, *parts in elements:
        if kind == "code" and ("\n" in parts[0] or not set(FENCES) - set(parts[0])):
            kinds.append(1)
        if kind == "math" and (parts[0] == "" or "$" in parts[0]):
            kinds.append(2)
        if kind in ("link", "image") and set("\t\n\r") & set(parts[0]):
            kinds.append(3)
        if len(parts) == 2 and isinstance(parts[1], list):
            kinds.extend(inlines_lost(parts[1]))
    return kinds


def blocks_lost(blocks):
    kinds = []
    for kind, fields, children in blocks:
        if kind == "figure" and set("\t\n\r") & set(fields[1]):
            kinds.append(3)
        for number, name in (4, "code"), (5, "formula"):
            if kind == name and ("\n" + fields[1]).find("\n\\end{" + name + "}") >= 0:
                kinds.append(number)
        if kind in ("para", "heading", "figure"):
            kinds.extend(inlines_lost(children))
        elif kind in ("bullets", "numbers"):
            kinds.extend([lost for item in children for lost in blocks_lost(item)])
        elif kind == "terms":
            kinds.extend([lost for term, inner in children for lost in inlines_lost(term) + blocks_lost(inner)])
        elif kind == "table":
            cells = [children[0]] + [cell for row in children[2] for cell in row]
            kinds.extend([lost for cell in cells for lost in inlines_lost(cell)])
        else:
            kinds.extend(blocks_lost(children))
    return kinds


class RoundTrip(Case):
    def test_trees(self):
        asked, lossy = 0, 0
        for seed in range(6000):
            blocks = make_blocks(Numbers(seed), 3)
            tree = "\n".join(blocks_notation(blocks))
            if len(tree.encode()) > 600:
                continue
            normal = normal_blocks(blocks)
            lost = blocks_lost(normal)
            self.loses(tree, *lost)
            asked += 1
            if lost:
                lossy += 1
                continue
            text = blocks_text(normal)
            self.assertEqual(shown(self.ask(markup.write, tree)), text, tree)
            # A text that was written may be longer than a text that is handed in.
            self.assertEqual(shown(markup.read(list(text.encode()))), "\n".join(blocks_notation(normal)), tree)
        self.assertGreater(asked, 4000)
        self.assertGreater(lossy, 500)
        self.assertGreater(asked - lossy, 2000)


if __name__ == "__main__":
    unittest.main()
