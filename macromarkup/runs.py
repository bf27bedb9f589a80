"""The normal form of inline elements."""

from macromarkup.language import STYLES
from macromarkup.nodes import Node
from macromarkup.signs import BLANK, WHITE

WRAPPERS = ("link", "span")
NO_WRAPPERS = 0


class Chains:
    """Lists of wrappers, each known by a number; equal lists have the same number.

    A list is kept as the list without its last wrapper, that wrapper as a node without children,
    the length, and the kinds of the styles and links in it (of each there can be only one).
    """

    def __init__(self):
        self.outer = [NO_WRAPPERS]
        self.wrappers = [None]
        self.lengths = [0]
        self.held = [()]
        self.known = {}

    def inside(self, chain, node):
        """The list of wrappers of what stands in this element, which itself has the list chain."""
        if is_superfluous(node, self.held[chain]):
            return chain
        key = (chain, node.kind, node.fields)
        if key not in self.known:
            self.known[key] = len(self.outer)
            self.outer.append(chain)
            self.wrappers.append(Node(node.kind, node.fields, []))
            self.lengths.append(self.lengths[chain] + 1)
            self.held.append(self.held[chain] + kinds_held(node))
        return self.known[key]

    def common(self, first, second):
        """The longest common beginning of two lists."""
        while first != second:
            if self.lengths[first] >= self.lengths[second]:
                first = self.outer[first]
            else:
                second = self.outer[second]
        return first

    def between(self, outer, inner):
        """The wrappers that the second list has behind the first one, which is its beginning."""
        nodes = []
        while inner != outer:
            nodes.append(self.wrappers[inner])
            inner = self.outer[inner]
        nodes.reverse()
        return nodes


def is_superfluous(node, held):
    """Whether a wrapper is left out inside wrappers of these kinds."""
    if node.kind == "span":
        return not node.fields
    return node.kind in held


def kinds_held(node):
    if node.kind == "span":
        return ()
    return (node.kind,)


class Builder:
    """Builds a list of inline elements from runs; around the place where it builds some elements are open."""

    def __init__(self, chains):
        self.chains = chains
        self.chain = NO_WRAPPERS
        self.levels = [[]]

    def add_run(self, item, chain):
        """Adds what a run consists of, within the wrappers of this list."""
        shared = self.chains.common(self.chain, chain)
        while len(self.levels) > self.chains.lengths[shared] + 1:
            self.levels.pop()
        for wrapper in self.chains.between(shared, chain):
            node = Node(wrapper.kind, wrapper.fields, [])
            self.levels[-1].append(node)
            self.levels.append(node.children)
        self.levels[-1].append(item)
        self.chain = chain


def is_wrapper(item):
    return not isinstance(item, int) and (item.kind in STYLES or item.kind in WRAPPERS)


def is_break(item):
    return not isinstance(item, int) and item.kind == "break"


def is_image(item):
    return not isinstance(item, int) and item.kind == "image"


def is_white(item):
    return isinstance(item, int) and item in WHITE


def runs_of(children, chains):
    """The runs as pairs of what they consist of and their list of wrappers.

    Each code point is a run by itself: those of a word have the same wrappers, so they meet again.
    """
    runs = []
    places = [(list(reversed(children)), NO_WRAPPERS)]
    while places:
        items, chain = places[-1]
        if not items:
            places.pop()
            continue
        item = items.pop()
        if is_wrapper(item):
            places.append((list(reversed(item.children)), chains.inside(chain, item)))
        else:
            runs.append((item, chain))
    return runs


def arranged(runs, chains):
    """The normal form that the runs give."""
    builder = Builder(chains)
    # The list of wrappers of the last run that is no gap (None ahead of the first one), and the gap since then.
    before = None
    gap = []
    for item, chain in runs:
        if is_white(item) or is_break(item):
            gap.append(item)
            continue
        if gap and before is not None:
            shared = chains.common(before, chain)
            for part in replaced_gap(gap):
                builder.add_run(part, shared)
        builder.add_run(item, chain)
        before = chain
        gap = []
    return builder.levels[0]


def replaced_gap(gap):
    """The line breaks of a gap, or one space."""
    breaks = [item for item in gap if is_break(item)]
    if breaks:
        return breaks
    return [BLANK]


def normalize_inlines(holder):
    """Brings the inline elements of a node into normal form, and those of the images among them on their own."""
    waiting = [holder]
    while waiting:
        node = waiting.pop()
        chains = Chains()
        runs = runs_of(node.children, chains)
        node.children = arranged(runs, chains)
        waiting.extend([item for item, chain in runs if is_image(item)])
