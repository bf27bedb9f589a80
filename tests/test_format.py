"""Operation format: the text of the document of a text."""

import unittest

from helper import Case, data, shown
from macromarkup import markup
from test_model import Numbers
from test_model import blocks_text as plain_blocks_text
from test_model import inlines_text as plain_inlines_text
from test_model import make_blocks as make_plain_blocks
from test_model import make_inlines as make_plain_inlines
from test_model import normal_blocks as normal_plain_blocks
from test_model import normal_inlines
from test_round_trip import blocks_lost, blocks_text, make_blocks, normal_blocks

# With another sign around it, a literal text can contain all the signs that can be written around one.
SIGNS = "|!+/\"':;,.?=*-@^_<>()"
LOST = "\\verb#" + SIGNS + "#"


class Blocks(Case):
    def test_the_answer_is_the_length_and_the_bytes(self):
        self.assertEqual(self.ask(markup.format_of, " \\rule "), [5] + list(b"\\rule"))
        self.assertEqual(self.ask(markup.format_of, "\u20ac"), [3, 226, 130, 172])
        self.assertEqual(self.ask(markup.format_of, ""), [0])

    def test_no_blocks(self):
        for text in "", " \n\n\t", "%a", "{}", "\\newcommand\\a{b}", "\\emph{}\n\n\\ \\\\", "\\begin{quote}\\end{quote}":
            self.formats(text, "")

    def test_paragraphs(self):
        self.formats(" a\t b%c\n  d\n", "a bd")
        self.formats("a\n\n\n\nb\n \t\nc", "a\n\nb\n\nc")
        self.formats("{a}{ {b}}", "a b")

    def test_headings(self):
        self.formats("\\section{a}", "\\heading{1}{a}")
        self.formats("\\subsection[x] {a}b", "\\heading[x]{2}{a}\n\nb")
        self.formats("\\subsubsection[ x.1 ]{ a }", "\\heading[x.1]{3}{a}")
        self.formats("\\heading[y]{1}{a}\\heading{ 6 } {}", "\\heading[y]{1}{a}\n\n\\heading{6}{}")
        self.formats("\\heading{1}{[a]}", "\\heading{1}{\\[a\\]}")
        self.formats("\\section{$s$ \\ref{a}\\\\}", "\\heading{1}{$s$ \\ref{a}}")

    def test_rules(self):
        self.formats("a\\rule b\\rule", "a\n\n\\rule\n\nb\n\n\\rule")

    def test_codes_and_formulas(self):
        for name in "code", "formula":
            begin, end = "\\begin{" + name + "}", "\\end{" + name + "}"
            self.formats(begin + "{}\n" + end, begin + "{}\n" + end)
            self.formats(begin + "{}\n\n" + end, begin + "{}\n" + end)
            self.formats(begin + "{}\n\n\n" + end, begin + "{}\n\n\n" + end)
            self.formats("x" + begin + "{c-1}\n a{%\n\n\\y " + end + "\n" + end + "z",
                         "x\n\n" + begin + "{c-1}\n a{%\n\n\\y " + end + "\n" + end + "\n\nz")

    def test_quotes_groups_and_notes(self):
        self.formats("\\begin {quote} a\n\n\nb \\end{ quote}c", "\\begin{quote}\na\n\nb\n\\end{quote}\n\nc")
        self.formats("\\begin{quote}a\\end{quote}\\begin{quote}b\\end{quote}", "\\begin{quote}\na\n\nb\n\\end{quote}")
        self.formats("\\begin{group}{ x , y\\,x}a\\end{group}", "\\begin{group}{x,y,x}\na\n\\end{group}")
        self.formats("a\\begin{group}{ }b\\rule\\end{group}", "a\n\nb\n\n\\rule")
        self.formats("\\begin{note} { n }\\end{note}", "\\begin{note}{n}\n\\end{note}")

    def test_bullet_lists(self):
        self.formats("\\begin{itemize}\n\n\\item\\item a\n\nb\\item{}\\end{itemize}",
                     "\\begin{itemize}\n\\item\n\\item a\n\nb\n\\item\n\\end{itemize}")
        self.formats("\\begin{itemize}\\item\\end{itemize}\\begin{itemize}\\item\\rule\\end{itemize}",
                     "\\begin{itemize}\n\\item\n\\item \\rule\n\\end{itemize}")

    def test_the_number_of_the_first_item_is_written(self):
        self.formats("\\begin{enumerate}\\item a\\end{enumerate}",
                     "\\begin{enumerate}[1]\n\\item a\n\\end{enumerate}")
        self.formats("\\begin{enumerate}[ 007 ]\\item a\\item\\end{enumerate}",
                     "\\begin{enumerate}[7]\n\\item a\n\\item\n\\end{enumerate}")
        self.formats("\\begin{enumerate}[0]\\item\\end{enumerate}\\begin{enumerate}\\item\\end{enumerate}",
                     "\\begin{enumerate}[0]\n\\item\n\\item\n\\end{enumerate}")
        self.formats("\\begin{enumerate}\\item{}[2]\\end{enumerate}",
                     "\\begin{enumerate}[1]\n\\item \\[2\\]\n\\end{enumerate}")

    def test_term_lists(self):
        self.formats("\\begin{description} \\term{ a }b\n\n\\rule\\term {}\\end{description}",
                     "\\begin{description}\n\\term{a} b\n\n\\rule\n\\term{}\n\\end{description}")

    def test_tables(self):
        self.formats("\\begin{table}{t}{ nlcr }{ a }b&c\n\n&{d\\\\e}&\\\\ &&& \\end{table}",
                     "\\begin{table}{t}{nlcr}{a}\nb & c & d\\newline{}e &  \\\\\n &  &  &  \\\\\n\\end{table}")
        self.formats("\\begin{table}{ }{l}{}a\\\\\\\\\\end{table}", "\\begin{table}{}{l}{}\na \\\\\n \\\\\n\\end{table}")

    def test_figures(self):
        self.formats("\\begin{figure}{ f }{a {b}.png}\n\nc\\\\d\n\n\\end{figure}",
                     "\\begin{figure}{f}{a\\ b.png}\nc\\newline{}d\n\\end{figure}")
        self.formats("\\begin{figure}{}{}\\end{figure}", "\\begin{figure}{}{}\n\\end{figure}")

    def test_blocks_within_blocks(self):
        self.formats("\\begin{quote}\\begin{enumerate}\\item\\begin{note}{n}a\\rule\\end{note}\\item\\begin{description}"
                     "\\term{b}\\begin{code}{}\nc\n\\end{code}\\end{description}\\end{enumerate}\\end{quote}",
                     "\\begin{quote}\n\\begin{enumerate}[1]\n\\item \\begin{note}{n}\na\n\n\\rule\n\\end{note}\n"
                     "\\item \\begin{description}\n\\term{b} \\begin{code}{}\nc\n\\end{code}\n\\end{description}\n"
                     "\\end{enumerate}\n\\end{quote}")


class Inlines(Case):
    def test_escaped_characters(self):
        self.formats("\\{\\}\\$\\%\\&\\#\\~\\[\\]", "\\{\\}\\$\\%\\&\\#\\~\\[\\]")
        self.formats("[a]", "\\[a\\]")
        self.formats("\\!\\\"\\'\\(\\)\\*\\+\\,\\-\\.\\/\\:\\;\\<\\=\\>\\?\\@\\^\\_\\`\\|", "!\"'()*+,-./:;<=>?@^_`|")
        self.formats("\\backslash a\\backslash", "\\backslash{}a\\backslash{}")
        self.formats("a\\ \\ b\\ ", "a b")

    def test_hard_blanks(self):
        self.formats("a~b", "a\u00a0b")
        self.formats("~", "\u00a0")
        self.formats("a\u00a0\\~", "a\u00a0\\~")

    def test_literal_texts(self):
        self.formats("\\verb!a!", "\\verb|a|")
        self.formats("\\verb#a|b#", "\\verb!a|b!")
        self.formats("\\verb$|!+$", "\\verb/|!+/")
        self.formats("\\verb\u00e4\\{\t%\u00e4", "\\verb|\\{\t%|")
        self.formats("\\verb##", "\\verb||")
        self.formats("\\verb|!+/|\\verb0|!+/\"':;,.?=*-@^_<>(0", "\\verb|!+/|\\verb)|!+/\"':;,.?=*-@^_<>()")

    def test_math(self):
        self.formats("$ a\\{%\n\n$$b$", "$ a\\{%\n\n$$b$")

    def test_line_breaks(self):
        self.formats("a \\\\ \\newline b\\\\", "a\\newline{}\\newline{}b")
        self.formats("\\emph{a \\\\} b", "\\emph{a}\\newline{}b")

    def test_references_and_citations(self):
        self.formats("\\noteref { a }\\ref{b}", "\\noteref{a}\\ref{b}")
        self.formats("\\cite{ c , d\\,c}", "\\cite{c,d,c}")

    def test_styles(self):
        for name in "emph", "strong", "strike", "super", "sub", "caps":
            self.formats("\\" + name + " {a\\" + name + "{b}}{\\" + name + "{c}}", "\\" + name + "{abc}")
        self.formats("\\emph{a }\\strong{ b}", "\\emph{a} \\strong{b}")

    def test_links_images_and_spans(self):
        self.formats("\\link {a {b}\\ \\[\\backslash~} {c}", "\\link{a\\ b\\ \\[\\backslash{}\u00a0}{c}")
        self.formats("\\link{ a\t}{b}", "\\link{\\ a\\ }{b}")
        self.formats("\\link{a}{\\link{b}{c}}\\link{a}{d}", "\\link{a}{cd}")
        self.formats("\\image{a%\n}{ b\\image{}{}}", "\\image{a}{b\\image{}{}}")
        self.formats("\\span{ }{a}\\span{x}{b}\\span{x , y}{c}", "a\\span{x}{b}\\span{x,y}{c}")


class Expansion(Case):
    def test_what_is_left_after_expansion(self):
        self.formats("\\newcommand\\a[2][x]{\\emph{#1}#2}\\a{b}\\a[c]{d}", "\\emph{x}b\\emph{c}d")
        self.formats("\\newenvironment{e}[1]{\\begin{note}{#1}}{z\\end{note}}\\begin{e}{n}a\\end{e}",
                     "\\begin{note}{n}\naz\n\\end{note}")
        self.formats("\\ifempty{ }{a}{b}\\ifsame{a}{b}{c}{d}", "ad")
        self.formats("\\newcounter{c}\\setcounter{c}{14}\\stepcounter{c}\\arabic{c}.\\roman{c}.\\alph{c}", "15.xv.o")
        self.formats("\\newcommand\\a{\\begin{code}{}\nb\n\\end{code}}\\a\\a",
                     "\\begin{code}{}\nb\n\\end{code}\n\n\\begin{code}{}\nb\n\\end{code}")

    def test_definitions_end_with_their_group_or_environment(self):
        self.formats("{\\newcommand\\a{x}\\a}\\newcommand\\a{y}\\a", "xy")
        for text in (
            "{\\newcommand\\a{x}\\a}\\a", "\\begin{quote}\\newcommand\\a{x}\\a\\end{quote}\\a",
            "\\emph{\\newcommand\\a{x}\\a}\\a", "{\\newenvironment{e}{}{}\\begin e\\end e}\\begin e\\end e",
            "\\begin{note}{n}\\newenvironment{e}{}{}\\end{note}\\begin e\\end e",
            "\\newenvironment{f}{}{}\\begin f\\newcommand\\a{x}\\end f\\a",
        ):
            self.assertEqual(self.ask(markup.format_of, text), [-20], text)
            self.assertEqual(self.ask(markup.plain_text, text), [-20], text)

    def test_the_bounds(self):
        head = "\\newcommand\\a{x}"
        self.formats(head + "\\a" * 200, "x" * 200)
        self.refuses_document(head + "\\a" * 201, -20)
        head = "\\newcommand\\a[1]{" + "#1" * 100 + "}\\a{" + "x" * 30 + "}"
        self.formats(head, "x" * 3000)
        self.refuses_document(head + "y", -20)
        self.refuses_document("\\newcommand\\a{\\a}\\a", -20)

    def test_texts_of_600_bytes(self):
        self.formats("a" * 600, "a" * 600)
        self.formats("\u00e4" * 300, "\u00e4" * 300)
        self.formats("a\n\n" * 200, "\n\n".join("a" * 200))
        self.formats("\\" * 600, "")
        self.formats("a" + "\\\\" * 299 + "b", "a" + "\\newline{}" * 299 + "b")
        self.formats("[" * 600, "\\[" * 600)
        self.formats("{" * 299 + "ab" + "}" * 299, "ab")
        self.formats("\\emph{" * 85 + "abcde" + "}" * 85, "\\emph{abcde}")
        self.formats("\\begin{quote}" * 25 + "\\end{quote}" * 25, "")
        self.formats("%" + "a" * 599, "")
        self.formats(" " * 600, "")
        self.formats("%\n" * 300, "")

    def test_as_many_groups_and_environments_as_600_bytes_allow(self):
        self.formats("{" * 300 + "}" * 300, "")
        for text in "{" * 600, "\\begin{quote}" * 46, "\\emph{" * 100, "{" * 300 + "}" * 299, "}" * 600:
            self.refuses_document(text, -20)


class Losses(Case):
    def test_literal_texts(self):
        self.is_lost(LOST)
        self.is_lost("\\verb0 a" + SIGNS[::-1] + "#{ 0")
        self.is_lost("a\n\n" + LOST + "\n\nb")
        for sign in SIGNS:
            self.formats(LOST.replace(sign, ""), "\\verb" + sign + SIGNS.replace(sign, "") + sign)

    def test_each_place(self):
        for front, back in (
            ("\\emph{", "}"), ("\\link{}{", "}"), ("\\image{}{", "}"), ("\\span{a}{", "}"), ("{", "}"),
            ("\\section{", "}"), ("\\begin{quote}", "\\end{quote}"), ("\\begin{itemize}\\item ", "\\end{itemize}"),
            ("\\begin{enumerate}\\item ", "\\end{enumerate}"), ("\\begin{note}{n}", "\\end{note}"),
            ("\\begin{description}\\term{", "}\\end{description}"), ("\\begin{group}{}", "\\end{group}"),
            ("\\begin{description}\\term{}", "\\end{description}"), ("\\begin{figure}{}{}", "\\end{figure}"),
            ("\\begin{table}{}{l}{", "}a\\end{table}"), ("\\begin{table}{}{ll}{}a&", "\\end{table}"),
        ):
            self.is_lost(front + LOST + back)

    def test_macros_and_parameters(self):
        self.is_lost("\\newcommand\\a{" + LOST + "}\\a")
        self.is_lost("\\newcommand\\a[1]{\\emph{#1}}\\a{" + LOST + "}")
        self.is_lost("\\newcommand\\a[1][" + LOST + "]{#1}\\a")
        self.is_lost("\\newenvironment{e}{" + LOST + "}{}\\begin e\\end e")
        self.is_lost("\\ifempty{}{" + LOST + "}{}")
        self.formats("\\newcommand\\a{" + LOST + "}x", "x")
        self.formats("\\ifempty{" + LOST + "}{a}{b}", "b")

    def test_what_is_no_loss(self):
        self.formats("$ $$\n$$\\$", "$ $$\n$$\\$")
        self.formats("\\link{a\tb\nc\rd}{e}", "\\link{a\\ b\\ c\\ d}{e}")
        self.formats("\\begin{code}{}\n \\end{code}\n\\end{formula}\n\\end{code}",
                     "\\begin{code}{}\n \\end{code}\n\\end{formula}\n\\end{code}")
        self.formats("\\begin{formula}{}\n \\end{formula}\n\\end{code}\n\\end{formula}",
                     "\\begin{formula}{}\n \\end{formula}\n\\end{code}\n\\end{formula}")
        self.formats(SIGNS, SIGNS)
        self.formats("$" + SIGNS + "$", "$" + SIGNS + "$")


class Errors(Case):
    def notes(self, depth, inner):
        head = "\\newcommand\\a[1]{\\begin{note}{n}#1\\end{note}}"
        return head + "\\a{" * depth + inner + "}" * depth

    def test_a_text_that_is_not_valid(self):
        for wrong in [0xff], [0xc3], [0xed, 0xa0, 0x80], [0xf4, 0x90, 0x80, 0x80]:
            for text in "", "a", "{", "\\x", "&", self.notes(20, ""), LOST:
                self.assertEqual(self.ask(markup.format_of, data(text) + wrong), [-24], text)

    def test_errors_of_each_stage(self):
        for text in "$", "a#x", "\\verb", "{", "}", "\\x", "\\stepcounter{a}", "&", "\\item", "\\emph", "{\n\n}":
            for front in "", self.notes(20, ""), LOST, self.notes(20, LOST):
                self.assertEqual(self.ask(markup.format_of, front + text), [-20], text)

    def test_depth(self):
        inner = "\\begin{note}{n}\n"
        self.formats(self.notes(15, "x"), inner * 15 + "x" + "\n\\end{note}" * 15)
        self.formats(self.notes(16, ""), inner * 15 + inner + "\\end{note}" + "\n\\end{note}" * 15)
        for depth, inner in (17, ""), (16, "x"), (15, "\\emph{x}"), (15, "\\begin{group}{a}x\\end{group}"):
            self.assertEqual(self.ask(markup.format_of, self.notes(depth, inner)), [-28], inner)
        self.assertEqual(self.ask(markup.format_of, "\\image{}{" * 54 + "x" + "}" * 54), [-28])
        self.formats("\\begin{group}{}" * 20 + "x" + "\\end{group}" * 20, "x")

    def test_the_depth_comes_before_losses(self):
        self.is_lost(self.notes(14, LOST))
        self.assertEqual(self.ask(markup.format_of, self.notes(15, LOST)), [-28])
        self.assertEqual(self.ask(markup.format_of, LOST + self.notes(20, "") + LOST), [-28])

    def test_nothing_is_kept_between_calls(self):
        self.formats("\\newcommand\\a{x}\\newcounter{c}\\a", "x")
        self.assertEqual(self.ask(markup.format_of, "\\a"), [-20])
        self.is_lost(LOST)
        self.formats("", "")
        self.formats("\\newcommand\\a{x}\\newcounter{c}\\a", "x")


class Model(Case):
    """Texts of made documents have the form that the plain model gives them."""

    def test_inline_elements(self):
        asked = 0
        for seed in range(5000, 6500):
            elements = make_plain_inlines(Numbers(seed), 4)
            text = "\\section{" + plain_inlines_text(elements) + "}"
            if len(text) <= 600:
                self.formats(text, blocks_text([("heading", (1, ""), normal_inlines(elements))]))
                asked += 1
        self.assertGreater(asked, 1000)

    def test_blocks(self):
        asked = 0
        for seed in range(5000, 6500):
            blocks = make_plain_blocks(Numbers(seed), 4)
            text = plain_blocks_text(blocks)
            if len(text) <= 600:
                self.formats(text, blocks_text([like_trees(*block) for block in normal_plain_blocks(blocks)]))
                asked += 1
        self.assertGreater(asked, 1000)

    def test_all_elements(self):
        asked = 0
        for seed in range(5000, 9000):
            blocks = normal_blocks(make_blocks(Numbers(seed), 3))
            text = "" if blocks_lost(blocks) else blocks_text(blocks)
            if text and len(data(text)) <= 600:
                self.assertEqual(shown(self.ask(markup.format_of, text)), text)
                asked += 1
        self.assertGreater(asked, 1000)


def like_trees(kind, field, children=()):
    """A block of one plain model as one of the other."""
    if kind == "para":
        return (kind, (), [("text", field)])
    if kind in ("bullets", "numbers"):
        return (kind, () if kind == "bullets" else (field,),
                [[like_trees(*block) for block in item] for item in children])
    return (kind, (field,) if kind == "group" else (), [like_trees(*block) for block in children])


if __name__ == "__main__":
    unittest.main()
