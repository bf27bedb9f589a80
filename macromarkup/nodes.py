"""Document trees."""


class Node:
    """A block, an inline element or a part of one.

    Its kind is the symbol that it has in a notation ("document" for a document, "head" for the list
    that is the term of an entry). Its fields are what stands in it ahead of other parts: numbers, texts
    of the program (for symbols), tuples of code points (for strings); those of a group, a span and a
    citation are its labels. Its children are nodes; in a list of inline elements the code points
    that stand one after another there are a text.
    """

    def __init__(self, kind, fields, children):
        self.kind = kind
        self.fields = fields
        self.children = children
