"""Operation tokens: the tokens of a text and their errors."""

import unittest

from helper import Case
from macromarkup import markup


class Kinds(Case):
    def test_example_of_the_document(self):
        self.assertEqual(self.ask(markup.tokens, r"\a b\\ $x$"), [5, 0, 1, 3, 2, 4, 1, 6, 4, 7, 10])

    def test_empty_text(self):
        self.assertEqual(self.ask(markup.tokens, ""), [0])

    def test_each_kind(self):
        self.tokenizes(
            "\\a{b}\\% c\n\nd&#1$e$\\verb|f|",
            (0, 1), (2, 6), (3, 2), (4, 7), (5, 3), (7, 4), (8, 2), (9, 5), (11, 2), (12, 9), (13, 8),
            (15, 10), (18, 11),
        )
        self.tokenizes(
            "\\begin{code}{}\nx\n\\end{code}\\begin{formula}{}\nx\n\\end{formula}", (0, 12), (27, 13),
        )

    def test_positions_count_code_points(self):
        self.tokenizes("\u00e9\u20ac\U0001f600 \\\u0021a", (0, 2), (1, 2), (2, 2), (3, 4), (4, 3), (6, 2))

    def test_all_characters(self):
        self.tokenizes("~[]<>@^_'\"*\x00\x7f\u00a0", *[(at, 2) for at in range(14)])

    def test_600_bytes(self):
        self.tokenizes("{" * 600, *[(at, 6) for at in range(600)])
        self.tokenizes("\u20ac" * 200, *[(at, 2) for at in range(200)])


class White(Case):
    def test_one_line_feed_is_a_space(self):
        self.tokenizes("a \t\r\n b", (0, 2), (1, 4), (6, 2))
        self.tokenizes("\r\r", (0, 4))

    def test_two_line_feeds_are_a_paragraph(self):
        self.tokenizes("\n\n", (0, 5))
        self.tokenizes("a\n \t\r\n\n b", (0, 2), (1, 5), (8, 2))

    def test_other_white_space_is_a_character(self):
        self.tokenizes("\x0b\x0c\u2003", (0, 2), (1, 2), (2, 2))

    def test_white_space_behind_a_command(self):
        self.tokenizes("\\a \t\n b", (0, 1), (6, 2))
        self.tokenizes("\\a \n\n b", (0, 1), (2, 5), (6, 2))
        self.tokenizes("\\\\ b", (0, 1), (2, 4), (3, 2))
        self.tokenizes("\\%  b", (0, 3), (2, 4), (4, 2))
        self.tokenizes("\\a ", (0, 1))

    def test_comments(self):
        self.tokenizes("a%b\n \t c", (0, 2), (7, 2))
        self.tokenizes("a %b\n \n c", (0, 2), (1, 4), (6, 4), (8, 2))
        self.tokenizes("%\\\n\n\nb", (3, 5), (5, 2))
        self.tokenizes("%$ # \\", *[])
        self.tokenizes("\\a%\n b", (0, 1), (5, 2))
        self.tokenizes("\\a %\nb", (0, 1), (5, 2))
        self.tokenizes("%a\n\r%b\n", (3, 4))


class Signs(Case):
    def test_parameters(self):
        self.tokenizes("#1#9a", (0, 8), (2, 8), (4, 2))
        self.fails_in_tokens("a#0", 7, 1)
        self.fails_in_tokens("ab#", 7, 2)
        self.fails_in_tokens("#a", 7, 0)
        self.fails_in_tokens("##1", 7, 0)
        self.fails_in_tokens("#:", 7, 0)
        self.fails_in_tokens("#/", 7, 0)
        self.fails_in_tokens("#\u0661", 7, 0)

    def test_math(self):
        self.tokenizes("$a\n%\\#{$b", (0, 10), (8, 2))
        self.fails_in_tokens("a$$", 5, 1)
        self.fails_in_tokens("a$b", 1, 1)
        self.fails_in_tokens("a$", 1, 1)
        self.fails_in_tokens("a$b$$", 1, 4)

    def test_escaped_characters(self):
        signs = "!\"#$%&'()*+,-./:;<=>?@[]^_`{|}~ "
        self.tokenizes("".join(["\\" + sign for sign in signs]), *[(2 * at, 3) for at in range(len(signs))])
        self.tokenizes("\\\\\\ \\\\\\%", (0, 1), (2, 3), (4, 1), (6, 3))

    def test_a_backslash_before_anything_else(self):
        for sign in "0", "9", "\t", "\n", "\r", "\x00", "\x7f", "\u00e9", "\u00a0":
            self.fails_in_tokens("ab\\" + sign, 3, 2)
        self.fails_in_tokens("ab\\", 3, 2)
        self.fails_in_tokens("\\\\\\", 3, 2)

    def test_names_of_commands(self):
        self.tokenizes("\\aZz1", (0, 1), (4, 2))
        self.tokenizes("\\a\u00e9", (0, 1), (2, 2))
        self.tokenizes("\\a_\\b*", (0, 1), (2, 2), (3, 1), (5, 2))

    def test_the_first_error_counts(self):
        self.fails_in_tokens("$a$ #x \\", 7, 4)


class Verb(Case):
    def test_literal_texts(self):
        self.tokenizes("\\verb|a{%\\|b", (0, 11), (11, 2))
        self.tokenizes("\\verb!!", (0, 11))
        self.tokenizes("\\verb1\t\r1", (0, 11))
        self.tokenizes("\\verb%a%", (0, 11))
        self.tokenizes("\\verb\\a\\b", (0, 11), (8, 2))
        self.tokenizes("\\verb\u00e9a\u00e9b", (0, 11), (8, 2))

    def test_the_whole_name_must_be_verb(self):
        self.tokenizes("\\verbx|a|", (0, 1), (6, 2), (7, 2), (8, 2))
        self.tokenizes("\\Verb|", (0, 1), (5, 2))

    def test_errors(self):
        self.fails_in_tokens("a\\verb", 4, 1)
        for sign in " \t\n\r":
            self.fails_in_tokens("a\\verb" + sign + "b" + sign, 4, 1)
        self.fails_in_tokens("a\\verb|b", 1, 1)
        self.fails_in_tokens("a\\verb|", 1, 1)
        self.fails_in_tokens("a\\verb|b\n|", 1, 1)


class LiteralContent(Case):
    def test_with_and_without_a_label(self):
        self.tokenizes("\\begin{code}{py}\na\n\\end{code}", (0, 12))
        self.tokenizes("\\begin{code}{}\na\n\\end{code}", (0, 12))
        self.tokenizes("\\begin{formula}{f.1}\na\n\\end{formula}", (0, 13))

    def test_what_follows_the_end_is_read_as_usual(self):
        self.tokenizes("\\begin{code}{}\n\\end{code} a%", (0, 12), (25, 4), (26, 2))
        self.tokenizes("\\begin{code}{}\n\\end{code}x\\end{code}", (0, 12), (25, 2), *[
            (26, 1), (30, 6), (31, 2), (32, 2), (33, 2), (34, 2), (35, 7),
        ])

    def test_only_a_line_that_begins_with_the_end_ends_it(self):
        self.tokenizes("\\begin{code}{}\n \\end{code}\n\\end{formula}\n\\end{code}", (0, 12))
        self.tokenizes("a\\begin{formula}{}\n\\end{code}\n\\end{formula}b", (0, 2), (1, 13), (43, 2))
        self.tokenizes("\\begin{code}{}\n\n\n\\end{codes}\n$#\\\n\\end{code}", (0, 12))

    def test_without_an_end(self):
        self.fails_in_tokens("ab\\begin{code}{}\n", 1, 2)
        self.fails_in_tokens("ab\\begin{code}{}\nx\\end{code}", 1, 2)
        self.fails_in_tokens("\\begin{formula}{}\nx\n\\end{formula", 1, 0)
        self.fails_in_tokens("\\begin{formula}{}\n\\end{code}\n\n", 1, 0)

    def test_labels_of_1_and_40_characters(self):
        tail = "}\n\\end{code}"
        self.tokenizes("\\begin{code}{a" + tail, (0, 12))
        self.tokenizes("\\begin{code}{" + "aZ09-_.:" * 5 + tail, (0, 12))
        self.assertGreater(self.ask(markup.tokens, "\\begin{code}{" + "a" * 41 + tail)[0], 1)

    def test_another_first_line_is_an_ordinary_command(self):
        tail = "\n\\end{code}"
        for head in (
            "\\begin {code}{}", "\\begin{code} {}", "\\begin{code}", "\\begin{code}{} ", "\\begin{code}{}\r",
            "\\begin{code}{ a}", "\\begin{code}{a,b}", "\\begin{code}{\\-}", "\\begin{ code}{}", "\\begin{code}{}%",
            "\\begin%\n{code}{}", "\\begin{code}[]",
        ):
            answer = self.ask(markup.tokens, head + tail)
            self.assertEqual(answer[1:3], [0, 1], head)
            self.assertGreater(answer[0], 10, head)
        for head in "\\begin{code}{}", "\\begin{code}{a", "\\begin{code}{", "\\begin{code}", "\\begin{formula}{a}":
            self.assertGreater(self.ask(markup.tokens, head)[0], 4, head)


class WrongBytes(Case):
    def test_every_operation_refuses_them_first(self):
        for wrong in (
            [0x80], [0xbf], [0xc0, 0x80], [0xc1, 0xbf], [0xc3], [0xc3, 0x41], [0xe2, 0x82], [0xe2, 0x82, 0x41],
            [0xe0, 0x9f, 0xbf], [0xed, 0xa0, 0x80], [0xed, 0xbf, 0xbf], [0xf0, 0x9f, 0x98], [0xf0, 0x8f, 0xbf, 0xbf],
            [0xf4, 0x90, 0x80, 0x80], [0xf5, 0x80, 0x80, 0x80], [0xf8, 0x88, 0x80, 0x80, 0x80], [0xfe], [0xff],
            [0xc3, 0xa9, 0xa9], [0xe2, 0xc2, 0x80], [0xbf, 0x80], [0xc3, 0x7f], [0xc3, 0xc0], [0xf8, 0x90, 0x80, 0x80],
            [0xf7, 0xbf, 0xbf, 0xbf], [0xe2, 0x82, 0xc0], [0xf0, 0x9f, 0x7f, 0x80],
        ):
            for before in [], [0x24], [0x25], [0x5c]:
                for after in [], [0x24], [0x0a]:
                    for function in markup.check, markup.read, markup.tokens, markup.expand:
                        self.assertEqual(self.ask(function, before + wrong + after), [-24], wrong)

    def test_the_ends_of_what_is_allowed(self):
        for code in (
            0x7f, 0x80, 0xbf, 0xc0, 0x7ff, 0x800, 0xfff, 0x1000, 0xd7ff, 0xe000, 0xfeff, 0xfffd, 0xffff, 0x10000,
            0x3ffff, 0x40000, 0x7ffff, 0x80000, 0xfffff, 0x100000, 0x10ffff,
        ):
            self.tokenizes(chr(code) + "a", (0, 2), (1, 2))
            self.expands(chr(code), chr(code))


if __name__ == "__main__":
    unittest.main()
