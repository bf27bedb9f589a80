"""Random inline elements and blocks, brought into normal form by the words of the document in the plainest way.

The elements are made by a row of numbers that is the same each time. They are written as a text, which
must be read as the notation of their normal form.
"""

import unittest

from helper import Case, shown
from macromarkup import markup

STYLES = ("emph", "strong", "caps")
LEAVES = ("break", "code", "math", "noteref", "ref", "cite")
WHITE = " \t\n\r"
TEXTS = ("a", "b", " ", "a ", " b", "c d", "")


class Numbers:
    def __init__(self, seed):
        self.seed = seed

    def below(self, bound):
        self.seed = (self.seed * 6364136223846793005 + 1442695040888963407) % 2 ** 64
        return (self.seed >> 33) % bound

    def one_of(self, things):
        return things[self.below(len(things))]


def make_inlines(numbers, depth):
    return [make_inline(numbers, depth) for count in range(numbers.below(5))]


def make_inline(numbers, depth):
    kind = numbers.one_of(("text", "text", "text", "break", "code", "style", "style", "style", "link", "span", "image"))
    if kind == "text" or depth == 0:
        return ("text", numbers.one_of(TEXTS))
    if kind == "break":
        return ("break",)
    if kind == "code":
        return ("code", "q")
    children = make_inlines(numbers, depth - 1)
    if kind == "style":
        return (numbers.one_of(STYLES), None, children)
    if kind == "span":
        return (kind, numbers.one_of(((), ("x",), ("x", "y"))), children)
    return (kind, numbers.one_of("tu"), children)


def inlines_text(elements):
    return "".join([inline_text(element) for element in elements])


def inline_text(element):
    if element[0] == "text":
        return element[1].replace(" ", "\\ ")
    if element[0] == "break":
        return "\\newline{}"
    if element[0] == "code":
        return "\\verb|" + element[1] + "|"
    if element[0] in STYLES:
        return "\\" + element[0] + "{" + inlines_text(element[2]) + "}"
    return "\\" + element[0] + "{" + ",".join(element[1]) + "}{" + inlines_text(element[2]) + "}"


def runs_of(elements, wrappers):
    runs = []
    for element in elements:
        if element[0] == "text":
            runs.extend([(("text", part), wrappers) for part in words(element[1])])
        elif element[0] in LEAVES:
            runs.append((element, wrappers))
        elif element[0] == "image":
            runs.append((("image", element[1], normal_inlines(element[2])), wrappers))
        else:
            kinds = [wrapper[0] for wrapper in wrappers]
            left_out = element[1] == () if element[0] == "span" else element[0] in kinds
            runs.extend(runs_of(element[2], wrappers if left_out else wrappers + [element[:2]]))
    return runs


def words(text):
    parts = []
    for sign in text:
        if parts and (parts[-1][-1] in WHITE) == (sign in WHITE):
            parts[-1] += sign
        else:
            parts.append(sign)
    return parts


def is_gap(run):
    return run[0][0] == "break" or run[0][0] == "text" and run[0][1].strip(WHITE) == ""


def normal_inlines(elements):
    runs = runs_of(elements, [])
    while runs and is_gap(runs[0]):
        runs = runs[1:]
    while runs and is_gap(runs[-1]):
        runs = runs[:-1]
    result = []
    while runs:
        if not is_gap(runs[0]):
            result.append(runs.pop(0))
            continue
        gap = []
        while is_gap(runs[0]):
            gap.append(runs.pop(0)[0])
        breaks = [part for part in gap if part[0] == "break"]
        common = []
        for first, second in zip(result[-1][1], runs[0][1]):
            if first != second:
                break
            common.append(first)
        result.extend([(part, common) for part in breaks or [("text", " ")]])
    return built(result)


def built(runs):
    elements = []
    at = 0
    while at < len(runs):
        item, wrappers = runs[at]
        end = at + 1
        if not wrappers:
            if item[0] == "text" and elements and elements[-1][0] == "text":
                elements[-1] = ("text", elements[-1][1] + item[1])
            else:
                elements.append(item)
        else:
            while end < len(runs) and runs[end][1][:1] == wrappers[:1]:
                end += 1
            inner = [(run[0], run[1][1:]) for run in runs[at:end]]
            elements.append(wrappers[0] + (built(inner),))
        at = end
    return elements


def notation(parts):
    return "(" + " ".join([part for part in parts if part is not None]) + ")"


def quoted(text):
    short = {'"': '\\"', "\\": "\\\\", "\n": "\\n", "\t": "\\t"}
    return '"' + "".join([short.get(sign, sign if sign >= " " else "\\u{%x}" % ord(sign)) for sign in text]) + '"'


def inline_notation(element):
    if element[0] == "text":
        return quoted(element[1])
    if element[0] in LEAVES:
        return notation([element[0]] + [quoted(part) for part in element[1:]])
    front = None
    if element[0] == "span":
        front = notation(["class"] + [quoted(label) for label in element[1]])
    elif element[0] not in STYLES:
        front = quoted(element[1])
    return notation([element[0], front] + [inline_notation(child) for child in element[2]])


def make_blocks(numbers, depth):
    return [make_block(numbers, depth) for count in range(numbers.below(4))]


def make_block(numbers, depth):
    kind = numbers.one_of(("para", "para", "quote", "quote", "quote", "bullets", "numbers", "group"))
    if kind == "para" or depth == 0:
        return ("para", numbers.one_of(("a", "b", "")))
    if kind in ("quote", "group"):
        return (kind, numbers.one_of(("", "", "x")), make_blocks(numbers, depth - 1))
    items = [make_blocks(numbers, depth - 1) for count in range(1 + numbers.below(2))]
    return (kind, numbers.below(3), items)


def block_text(block):
    kind = block[0]
    if kind == "para":
        return "{" + block[1] + "}\n\n"
    if kind == "quote":
        return "\\begin{quote}" + blocks_text(block[2]) + "\\end{quote}"
    if kind == "group":
        return "\\begin{group}{" + block[1] + "}" + blocks_text(block[2]) + "\\end{group}"
    items = "".join(["\\item{}\n\n" + blocks_text(item) for item in block[2]])
    if kind == "bullets":
        return "\\begin{itemize}" + items + "\\end{itemize}"
    return "\\begin{enumerate}[" + str(block[1]) + "]" + items + "\\end{enumerate}"


def blocks_text(blocks):
    return "".join([block_text(block) for block in blocks])


def normal_blocks(blocks):
    result = []
    for block in blocks:
        if block[0] == "para":
            result.extend([block] if block[1] else [])
        elif block[0] in ("bullets", "numbers"):
            result.append((block[0], block[1], [normal_blocks(item) for item in block[2]]))
        else:
            inner = normal_blocks(block[2])
            if block[0] == "group" and not block[1]:
                result.extend(inner)
            elif inner:
                result.append((block[0], block[1], inner))
    return joined(result)


def joined(blocks):
    result = []
    for block in blocks:
        last = result[-1] if result else ("none",)
        if block[0] == last[0] == "quote":
            result[-1] = ("quote", "", joined(last[2] + block[2]))
        elif block[0] == last[0] == "bullets" or (
            block[0] == last[0] == "numbers" and last[1] + len(last[2]) == block[1]
        ):
            result[-1] = last[:2] + (last[2] + block[2],)
        else:
            result.append(block)
    return result


def block_notation(block):
    kind = block[0]
    if kind == "para":
        return notation([kind, quoted(block[1])])
    if kind == "quote":
        return notation([kind] + [block_notation(inner) for inner in block[2]])
    if kind == "group":
        return notation([kind, notation(["class", quoted(block[1])])] + [block_notation(inner) for inner in block[2]])
    items = [notation(["item"] + [block_notation(inner) for inner in item]) for item in block[2]]
    return notation([kind, None if kind == "bullets" else str(block[1])] + items)


class Model(Case):
    def test_inline_elements(self):
        asked = 0
        for seed in range(4000):
            elements = make_inlines(Numbers(seed), 4)
            text = "\\section{" + inlines_text(elements) + "}"
            if len(text) <= 600:
                expected = ["heading", "1", '""'] + [inline_notation(part) for part in normal_inlines(elements)]
                self.assertEqual(shown(self.ask(markup.read, text)), notation(expected), text)
                asked += 1
        self.assertGreater(asked, 3000)

    def test_blocks(self):
        asked = 0
        for seed in range(4000):
            blocks = make_blocks(Numbers(seed), 4)
            text = blocks_text(blocks)
            if len(text) <= 600:
                expected = [block_notation(block) for block in normal_blocks(blocks)]
                self.assertEqual(shown(self.ask(markup.read, text)), "\n".join(expected), text)
                self.checks(text, 0, len(expected))
                asked += 1
        self.assertGreater(asked, 3000)


if __name__ == "__main__":
    unittest.main()
