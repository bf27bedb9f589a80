"""What all tests share: texts and notations as lists of bytes, and answers as texts."""

import unittest

from macromarkup import markup


def data(text):
    """The bytes of a text in UTF-8."""
    return list(text.encode("utf-8"))


def as_handed_in(value):
    """A text or bytes as a list of bytes; a number as it is."""
    if isinstance(value, int):
        return value
    return data(value) if isinstance(value, str) else list(value)


def shown(answer):
    """The text that an answer of a length and bytes holds, or the answer itself if it is an error."""
    if len(answer) == 1 and answer[0] < 0:
        return answer
    if answer[0] != len(answer) - 1:
        raise AssertionError("the length isn't the number of the bytes: " + repr(answer))
    return bytes(answer[1:]).decode("utf-8")


class Case(unittest.TestCase):
    """Asks the functions of the program about texts."""

    def ask(self, function, *handed):
        """What the function answers; what is handed in must stay as it is, and a second call must answer the same."""
        given = [as_handed_in(one) for one in handed]
        self.assertTrue(all([isinstance(one, int) or len(one) <= 600 for one in given]), handed)
        kept = [one if isinstance(one, int) else list(one) for one in given]
        answer = function(*given)
        self.assertEqual(given, kept, handed)
        self.assertEqual(function(*given), answer, handed)
        self.assertIs(type(answer), list)
        self.assertTrue(all([type(number) is int for number in answer]), answer)
        return answer

    def checks(self, text, *expected):
        self.assertEqual(self.ask(markup.check, text), list(expected), text)

    def fails(self, text, kind, position):
        """The text has this error, for check and for whatever needs its document."""
        self.checks(text, kind, position)
        self.refuses_document(text, -20)

    def reads(self, text, notation, count=None):
        """The text has the document with this notation, one line for each block."""
        self.assertEqual(shown(self.ask(markup.read, text)), notation, text)
        if count is None:
            count = len(notation.split("\n")) if notation else 0
        self.checks(text, 0, count)

    def tokenizes(self, text, *expected):
        """The tokens as pairs of their positions and kinds."""
        answer = self.ask(markup.tokens, text)
        self.assertEqual(answer[0], len(answer) // 2, text)
        self.assertEqual(list(zip(answer[1::2], answer[2::2])), list(expected), text)

    def expands(self, text, expected):
        self.assertEqual(shown(self.ask(markup.expand, text)), expected, text)

    def defines(self, text, *expected):
        """The expressions of the macros and environments."""
        self.assertEqual(shown(self.ask(markup.macros, text)), "\n".join(expected), text)

    def counts(self, text, *expected):
        """The expressions of the counters."""
        self.assertEqual(shown(self.ask(markup.counters, text)), "\n".join(expected), text)

    def refuses_all(self, text, code):
        """Whatever needs the expansion, but not the tree, has this error."""
        for function in markup.expand, markup.macros, markup.counters:
            self.assertEqual(self.ask(function, text), [code], text)

    def refuses_document(self, text, code):
        """Whatever gives back the document in some form has this error."""
        for function in markup.read, markup.format_of, markup.plain_text:
            self.assertEqual(self.ask(function, text), [code], text)
        for first, second in (text, ""), ("", text), (text, text):
            self.assertEqual(self.ask(markup.is_same, first, second), [code], text)

    def compares(self, first, second, expected):
        """Whether both texts have the same document, whichever is the first one."""
        self.assertEqual(self.ask(markup.is_same, first, second), [expected], (first, second))
        self.assertEqual(self.ask(markup.is_same, second, first), [expected], (second, first))

    def formats(self, text, expected):
        """The text has this form, which has the same document and stays as it is."""
        self.assertEqual(shown(self.ask(markup.format_of, text)), expected, text)
        # What was formatted may be longer than a text that is handed in.
        if len(data(expected)) <= 600:
            self.assertEqual(shown(self.ask(markup.format_of, expected)), expected, text)
            self.assertEqual(self.ask(markup.read, expected), self.ask(markup.read, text), text)
            self.compares(text, expected, 1)

    def is_lost(self, text):
        """The document of the text has losses."""
        self.assertEqual(self.ask(markup.format_of, text), [-33], text)
        self.assertEqual(self.ask(markup.check, text)[0], 0, text)

    def says(self, text, expected):
        """The document of the text has this plain text."""
        self.assertEqual(shown(self.ask(markup.plain_text, text)), expected, text)

    def writes(self, tree, text, notation=None):
        """The tree has this text, and that text has this notation (the tree itself if none is given)."""
        self.assertEqual(shown(self.ask(markup.write, tree)), text, tree)
        self.assertEqual(self.ask(markup.losses, tree), [0], tree)
        self.reads(text, tree if notation is None else notation)

    def loses(self, tree, *kinds):
        """The tree has losses of these kinds."""
        self.assertEqual(self.ask(markup.losses, tree), [len(kinds)] + list(kinds), tree)
        if kinds:
            self.assertEqual(self.ask(markup.write, tree), [-33], tree)
        else:
            self.assertGreaterEqual(self.ask(markup.write, tree)[0], 0, tree)

    def refuses(self, tree):
        """The tree isn't the notation of a document."""
        self.assertEqual(self.ask(markup.write, tree), [-20], tree)
        self.assertEqual(self.ask(markup.losses, tree), [-20], tree)

    def fails_in_expansion(self, text, kind, position):
        """The text has this error, and it isn't one of the tokens."""
        self.fails(text, kind, position)
        self.refuses_all(text, -20)
        self.assertGreaterEqual(self.ask(markup.tokens, text)[0], 0, text)

    def fails_in_tokens(self, text, kind, position):
        self.fails(text, kind, position)
        self.refuses_all(text, -20)
        self.assertEqual(self.ask(markup.tokens, text), [-20], text)

    def fails_in_tree(self, text, kind, position):
        """The text has this error, but its tokens can be expanded."""
        self.fails(text, kind, position)
        for function in markup.expand, markup.macros, markup.counters:
            self.assertGreaterEqual(self.ask(function, text)[0], 0, text)
