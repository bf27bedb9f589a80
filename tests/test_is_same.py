"""Operation is_same: whether two texts have the same document."""

import unittest

from helper import Case, data
from macromarkup import markup
from test_model import Numbers, inlines_text, make_inlines, normal_inlines
from test_round_trip import blocks_lost, blocks_text, make_blocks, normal_blocks

NOTES = "\\newcommand\\a[1]{\\begin{note}{n}#1\\end{note}}"


def notes(depth, inner):
    """Notes in one another, as deep as that, with something in them; a macro keeps the text short."""
    return NOTES + "\\a{" * depth + inner + "}" * depth


def in_table(row):
    return "\\begin{table}{t}{lr}{c}" + row + "\\end{table}"


class Same(Case):
    def all_same(self, *texts):
        """All these texts have the same document."""
        for first in texts:
            for second in texts:
                self.assertEqual(self.ask(markup.is_same, first, second), [1], (first, second))

    def test_no_blocks(self):
        self.all_same("", " \n", "\n\n", "%", "%a\n \t", "{}", "{ \\emph{}}", "\\\\\\ ", "\\newcommand\\a{b}",
                      "\\newcounter{c}", "\\begin{quote}\\end{quote}", "\\begin{group}{x}{}\\end{group}")

    def test_white_space_and_comments(self):
        self.all_same("a b", " a  b ", "a\nb", "a\t\r b\n\n", "a %c\n b", "%\na%\n\n b", "\n\na\\ b", "a \\ {} b")
        self.all_same("a\n\nb", "a\n \n\n\tb\n", "a%\n\n\nb", "a\n\n%c\n\nb")
        self.all_same("\\emph{a}", "\\emph {a}", "\\emph\n{ a }", "\\emph%\n{a}", " \\emph{a}%")

    def test_macros_and_what_they_expand_to(self):
        self.all_same("a\\emph{b}", "\\newcommand\\x{a}\\x\\emph{b}", "\\newcommand\\x[1]{a\\emph{#1}}\\x b",
                      "\\newcommand\\x[2][a]{#1\\emph{#2}}\\x b", "\\ifempty{}{a}{b}\\emph{\\ifsame{a}{b}{a}{b}}",
                      "\\newcounter{c}\\stepcounter{c}\\alph{c}\\stepcounter{c}\\emph{\\alph{c}}",
                      "\\newenvironment{e}[1]{a}{\\emph{b}}\\begin{e}z\\end{e}")
        self.all_same("\\begin{note}{n}x\\end{note}",
                      "\\newenvironment{e}[1]{\\begin{note}{#1}}{\\end{note}}\\begin{e}{n}x\\end{e}")

    def test_ways_to_write_the_same(self):
        self.all_same("\\section{a}", "\\heading{1}{a}", "\\heading{001}{a}", "\\section{ {a}}\n\n")
        self.all_same("\\subsection[x]{a}", "\\heading[x]{2}{a}", "\\heading [ x ]{ 2 }{a}")
        self.all_same("\\subsubsection{a}", "\\heading{3}{a}")
        self.all_same("~", "\u00a0")
        self.all_same("a\\\\b", "a\\newline b", "a \\newline{} b", "{a\\newline}b")
        self.all_same("\\verb|a|", "\\verb!a!", "\\verb#a#", "{\\verb1a1}")
        self.all_same("(\\,\\!", "\\(,!")
        self.all_same("\\cite{a,b}", "\\cite{ a , b }", "\\cite{a\\,b}")
        self.all_same("\\link{a b}{c}", "\\link{a\nb}{c}", "\\link{a\\ {b}}{c}")
        self.all_same("\\begin{enumerate}\\item a\\end{enumerate}", "\\begin{enumerate}[1]\\item{a}\\end{enumerate}")
        self.all_same(in_table("a&b\\\\"), in_table("a & b"), in_table("\n\na&\n\nb \\\\ \n\n"))
        self.all_same("\\begin{figure}{}{t}a\\end{figure}", "\\begin{figure}{ }{t}\n\na\n\n\\end{figure}")

    def test_groups_classes_and_gaps(self):
        self.all_same("a b", "{a} {b}", "{a{ }}b", "{{}a{} b{}}", "\\span{}{a b}", "\\span{ }{a }b")
        self.all_same("a\n\nb", "\\begin{group}{}a\n\nb\\end{group}", "a\\begin{group}{}b\\end{group}")
        self.all_same("\\emph{a}b", "\\emph{a\\emph{}}b", "\\emph{\\emph{a}}b", "\\emph{a}\\strong{}b")
        self.all_same("\\emph{a}\\\\b", "\\emph{a\\\\}b", "\\emph{a}\\emph{\\\\}b", "\\emph{a} \\\\ b")
        self.all_same("\\emph{a} b", "\\emph{a }b", "\\emph{a}\\strong{ }b", "\\emph{a }\\ b")

    def test_neighbours_that_become_one(self):
        self.all_same("\\emph{ab}", "\\emph{a}\\emph{b}", "\\emph{a\\emph{b}}", "\\emph{a}{}\\emph{b}")
        self.all_same("\\span{x,y}{ab}", "\\span{x,y}{a}\\span{x, y}{b}")
        self.all_same("\\link{t}{ab}", "\\link{t}{a}\\link{t}{b}", "\\link{t}{a\\link{u}{b}}")
        quote = "\\begin{quote}a\\end{quote}"
        self.all_same("\\begin{quote}a\n\na\\end{quote}", quote + quote, quote + "\n\n{}\n\n" + quote)
        self.all_same("\\begin{itemize}\\item a\\item b\\end{itemize}",
                      "\\begin{itemize}\\item a\\end{itemize}\\begin{itemize}\\item b\\end{itemize}")
        self.all_same("\\begin{enumerate}[4]\\item a\\item b\\end{enumerate}",
                      "\\begin{enumerate}[4]\\item a\\end{enumerate}\\begin{enumerate}[5]\\item b\\end{enumerate}")

    def test_the_same_list_twice(self):
        for text in "", "a\\emph{b}", "\\begin{code}{}\n\\end{code}", "\\newcommand\\a{x}\\newcounter{c}\\a":
            given = data(text)
            self.assertEqual(markup.is_same(given, given), [1])
            self.assertEqual(given, data(text))


class Different(Case):
    def all_different(self, *texts):
        """No two of these texts have the same document."""
        for at, first in enumerate(texts):
            for second in texts[at + 1:]:
                self.compares(first, second, 0)

    def test_texts(self):
        self.all_different("", "a", "A", "b", "ab", "ba", "a b", "a\\\\b", "a\\\\\\\\b", "a\n\nb", "a~b", "\u00e4",
                           "a\u0308", "a,", "\\$", "\\backslash", "\\rule", "a\\rule", "\\rule a", "\\rule\\rule")

    def test_headings(self):
        self.all_different("a", "\\section{a}", "\\subsection{a}", "\\subsubsection{a}", "\\heading{4}{a}",
                           "\\heading{5}{a}", "\\heading{6}{a}", "\\section[x]{a}", "\\section[X]{a}", "\\section{}",
                           "\\section[a]{}", "\\section{a b}", "\\section{\\emph{a}}")

    def test_codes_formulas_and_texts(self):
        self.all_different(
            "x", "\\verb|x|", "\\verb|x |", "$x$",
            "\\begin{code}{}\nx\n\\end{code}", "\\begin{code}{x}\nx\n\\end{code}",
            "\\begin{code}{y}\nx\n\\end{code}", "\\begin{formula}{}\nx\n\\end{formula}",
            "\\begin{formula}{x}\nx\n\\end{formula}", "\\begin{code}{x}\n\\end{code}", "\\begin{code}{}\n\\end{code}",
            "\\begin{code}{}\nx\n\n\\end{code}", "\\begin{code}{}\n x\n\\end{code}",
            "\\begin{formula}{}\n\\end{formula}",
        )

    def test_references(self):
        self.all_different("a", "\\ref{a}", "\\ref{b}", "\\noteref{a}", "\\cite{a}", "\\cite{b}", "\\cite{a,b}",
                           "\\cite{b,a}", "\\cite{a,a}", "\\cite{a}\\cite{b}")

    def test_styles(self):
        self.all_different("a", *["\\" + name + "{a}" for name in ("emph", "strong", "strike", "super", "sub", "caps")])
        self.all_different("ab", "\\emph{ab}", "\\emph{a}b", "a\\emph{b}", "\\emph{\\strong{ab}}",
                           "\\strong{\\emph{ab}}", "\\emph{a\\strong{b}}", "\\emph{a}\\strong{b}",
                           "\\strong{a}\\emph{b}")

    def test_links_images_and_spans(self):
        self.all_different("a", "\\link{a}{a}", "\\link{b}{a}", "\\link{ a}{a}", "\\link{}{a}", "\\link{a}{b}",
                           "\\image{a}{a}", "\\image{b}{a}", "\\image{a}{}", "\\image{a}{a}a", "\\span{a}{a}",
                           "\\span{b}{a}", "\\span{a,b}{a}", "\\span{b,a}{a}", "\\span{a,a}{a}",
                           "\\span{a}{\\span{b}{a}}")

    def test_blocks_of_blocks(self):
        self.all_different(
            "a", "\\begin{quote}a\\end{quote}", "\\begin{quote}\\begin{quote}a\\end{quote}\\end{quote}",
            "\\begin{quote}a\\end{quote}a", "\\begin{quote}a\n\na\\end{quote}", "\\begin{group}{a}a\\end{group}",
            "\\begin{group}{b}a\\end{group}", "\\begin{group}{a,b}a\\end{group}", "\\begin{group}{b,a}a\\end{group}",
            "\\begin{note}{a}a\\end{note}", "\\begin{note}{b}a\\end{note}", "\\begin{note}{a}\\end{note}",
        )

    def test_lists(self):
        self.all_different(*[
            "\\begin{" + name + "}" + start + items + "\\end{" + name + "}"
            for name, start in (("itemize", ""), ("enumerate", ""), ("enumerate", "[0]"), ("enumerate", "[999999]"))
            for items in ("\\item a", "\\item b", "\\item", "\\item a\\item", "\\item\\item a", "\\item a\n\na")
        ], *[
            "\\begin{description}" + items + "\\end{description}"
            for items in ("\\term{a}", "\\term{}a", "\\term{a}a", "\\term{a}\\term{}a", "\\term{a}b", "\\term{b}a")
        ])
        first = "\\begin{enumerate}\\item a\\item b\\end{enumerate}"
        for start, expected in (1, 0), (2, 0), (3, 1), (4, 0):
            second = "\\begin{enumerate}[" + str(start) + "]\\item c\\end{enumerate}"
            self.compares(first + second, "\\begin{enumerate}\\item a\\item b\\item c\\end{enumerate}", expected)

    def test_tables_and_figures(self):
        self.all_different(
            in_table("a&b"), in_table("a&"), in_table("&b"), in_table("b&a"), in_table("a&b\\\\a&b"),
            in_table("a&b\\\\&"), in_table("a&\\emph{b}"), in_table("a&b").replace("{t}", "{}"),
            in_table("a&b").replace("{t}", "{T}"), in_table("a&b").replace("{lr}", "{ll}"),
            in_table("a&b").replace("{lr}", "{rl}"), in_table("a&b").replace("{lr}", "{nr}"),
            in_table("a&b").replace("{lr}", "{cr}"), in_table("a&b").replace("{c}", "{}"),
            in_table("a&b").replace("{c}", "{d}"), in_table("a&b&").replace("{lr}", "{lrr}"), in_table("a&b") * 2,
            "\\begin{figure}{}{}a\\end{figure}", "\\begin{figure}{a}{}a\\end{figure}",
            "\\begin{figure}{}{a}a\\end{figure}", "\\begin{figure}{}{}\\end{figure}", "\\image{}{a}",
        )

    def test_one_more_block(self):
        for block in "\\rule", "\\section{}", "\\begin{note}{n}\\end{note}", in_table("&"), "x":
            self.all_different("", block, block + "\n\n" + block, block + "\n\n" + block + "\n\n" + block)

    def test_definitions_of_one_text_are_unknown_in_the_other(self):
        self.compares("\\newcommand\\a{x}\\a", "\\newcommand\\a{y}\\a", 0)
        self.assertEqual(self.ask(markup.is_same, "\\newcommand\\a{x}\\a", "\\a"), [-20])
        self.assertEqual(self.ask(markup.is_same, "\\newcounter{a}", "\\stepcounter{a}"), [-20])
        self.compares("\\newcounter{a}\\stepcounter{a}\\arabic{a}", "\\newcounter{a}\\arabic{a}", 0)


class Errors(Case):
    # An error of each stage: of the tokens, of the expansion and of the tree.
    FAULTY = ("$", "a#", "\\verb", "{", "}", "\\x", "\\stepcounter{a}", "&", "\\item", "\\emph", "{\n\n}")
    WRONG = ([0xff], [0x61, 0xc3], [0xed, 0xa0, 0x80], [0x7b, 0xc0, 0x80])
    DEEP = (
        notes(17, ""), notes(16, "x"), notes(15, "\\emph{x}"), notes(14, "\\span{a}{x}"),
        "\\image{}{" * 54 + "}" * 54,
    )

    def answers(self, first, second, *expected):
        self.assertEqual(self.ask(markup.is_same, first, second), list(expected), (first, second))

    def test_either_text(self):
        for texts, code in (self.WRONG, -24), (self.FAULTY, -20), (self.DEEP, -28):
            for text in texts:
                for other in "", "a", notes(15, "x"), "\\begin{quote}" * 20 + "\\end{quote}" * 20:
                    self.answers(text, other, code)
                    self.answers(other, text, code)

    def test_the_first_text_completely_before_the_second_one(self):
        kinds = (self.WRONG, -24), (self.FAULTY, -20), (self.DEEP, -28)
        for texts, code in kinds:
            for others, other_code in kinds:
                for text in texts:
                    for other in others:
                        self.answers(text, other, code)

    def test_the_order_within_a_text(self):
        for faulty in self.FAULTY:
            self.answers(data(faulty) + [0xff], "a", -24)
            self.answers("a", data(faulty) + [0xff], -24)
            self.answers(notes(20, "") + faulty, "a", -20)
            self.answers("a", notes(20, "") + faulty, -20)
        self.answers(data(notes(20, "")) + [0xff], "a", -24)
        self.answers("a", data(notes(20, "")) + [0xff], -24)

    def test_depth(self):
        self.compares(notes(15, "x"), notes(15, "{x}"), 1)
        self.compares(notes(15, "x"), notes(15, "y"), 0)
        self.compares(notes(16, ""), notes(15, ""), 0)
        self.answers(notes(15, "x"), notes(16, "x"), -28)
        self.answers(notes(16, "x"), notes(15, "x"), -28)
        self.answers(notes(16, "x"), notes(16, "x"), -28)

    def test_losses_are_no_errors(self):
        lost = "\\verb#|!+/\"':;,.?=*-@^_<>()#"
        self.compares(lost, lost.replace("#", "&"), 1)
        self.compares(lost, lost.replace("!", ""), 0)


class Edges(Case):
    def test_texts_of_600_bytes(self):
        self.compares("a" * 600, "a" * 600, 1)
        self.compares("a" * 600, "a" * 599 + "b", 0)
        self.compares("a" * 600, "a" * 599, 0)
        self.compares("\u00e4" * 300, "\u00e4" * 300, 1)
        self.compares("\u00e4" * 300, "\u00e4" * 299 + "\u00e5", 0)
        self.compares("a\n\n" * 200, "\n\na" * 200, 1)
        self.compares("[" * 600, "\\[" * 300, 0)
        self.compares("%" + "a" * 599, " " * 600, 1)
        self.compares("\\" * 600, "", 1)
        self.compares("\\rule" * 120, "\\rule" * 119, 0)

    def test_groups_and_environments_opened_as_often_as_600_bytes_allow(self):
        self.compares("{" * 300 + "}" * 300, "", 1)
        self.compares("{" * 299 + "ab" + "}" * 299, "ab", 1)
        self.compares("\\emph{" * 85 + "a" + "}" * 85, "\\emph{a}", 1)
        self.compares("\\begin{quote}" * 25 + "\\end{quote}" * 25, "{" * 300 + "}" * 300, 1)
        self.compares("\\begin{group}{}" * 21 + "a" + "\\end{group}" * 21, "a", 1)
        for text in "{" * 600, "{" * 300 + "}" * 299, "\\begin{quote}" * 46, "}" * 600, "\\emph{" * 100:
            self.refuses_document(text, -20)
        deep = "\\begin{quote}" * 24 + "a" + "\\end{quote}" * 24
        self.refuses_document(deep, -28)

    def test_lists_of_600_bytes_that_are_no_text(self):
        self.refuses_document([0x80] * 600, -24)
        self.refuses_document(list(range(256)) * 2, -24)
        self.refuses_document([0x61] * 599 + [0xc3], -24)

    def test_the_bounds_of_the_expansion(self):
        head = "\\newcommand\\a{x}"
        self.compares(head + "\\a" * 200, "x" * 200, 1)
        self.refuses_document(head + "\\a" * 201, -20)
        self.compares("\\newcommand\\a[1]{" + "#1" * 20 + "}\\a{\\a{b}}", "b" * 400, 1)

    def test_nothing_is_kept_between_calls(self):
        self.compares("\\newcommand\\a{x}\\a", "x", 1)
        self.assertEqual(self.ask(markup.is_same, "\\a", "x"), [-20])
        self.compares("", "x", 0)
        self.compares("\\newcommand\\a{x}\\a", "x", 1)


class Model(Case):
    """Texts of made documents have the same document if the plain model says so."""

    def test_inline_elements(self):
        made = []
        for seed in range(1500):
            elements = make_inlines(Numbers(seed), 3)
            text = inlines_text(elements)
            if len(text) <= 600:
                made.append((text, normal_inlines(elements)))
        self.assertGreater(len(made), 1000)
        same = 0
        for (first, elements), (second, others) in zip(made, made[7:] + made[:7]):
            self.compares(first, second, 1 if elements == others else 0)
            same += elements == others
        self.assertGreater(same, 10)

    def test_blocks(self):
        last = ("", [])
        asked = 0
        for seed in range(12000, 15000):
            blocks = normal_blocks(make_blocks(Numbers(seed), 2))
            text = "" if blocks_lost(blocks) else blocks_text(blocks)
            if text and len(data(text)) <= 600:
                self.compares(text, last[0], 1 if blocks == last[1] else 0)
                last = (text, blocks)
                asked += 1
        self.assertGreater(asked, 1000)


if __name__ == "__main__":
    unittest.main()
