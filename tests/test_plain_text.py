"""Operation plain_text: the plain text of the document of a text."""

import unittest

from helper import Case, data, shown
from macromarkup import markup
from test_model import LEAVES, Numbers
from test_round_trip import blocks_lost, blocks_text, make_blocks, normal_blocks


class Inlines(Case):
    def test_the_answer_is_the_length_and_the_bytes(self):
        self.assertEqual(self.ask(markup.plain_text, "ab"), [3, 97, 98, 10])
        self.assertEqual(self.ask(markup.plain_text, "\u20ac"), [4, 226, 130, 172, 10])
        self.assertEqual(self.ask(markup.plain_text, ""), [0])

    def test_texts(self):
        self.says("a b\\%\\ \\{~\\backslash", "a b% {\u00a0\\\n")
        self.says(" a\t\n b \\ c%d\n e", "a b ce\n")
        self.says("\x00\x0b\x7f\u00e4\u2028\U0010ffff", "\x00\x0b\x7f\u00e4\u2028\U0010ffff\n")
        self.says("\\&\\$\\#\\~\\[[]<>\"", "&$#~[[]<>\"\n")

    def test_codes_and_math_as_they_are(self):
        self.says("\\verb|a|", "a\n")
        self.says("\\verb||", "\n")
        self.says("a\\verb+ \\emph{%  $ \t\r+b", "a \\emph{%  $ \t\rb\n")
        self.says("$a$", "a\n")
        self.says("a $ \\x{#1}%\n\n\t & $ b", "a  \\x{#1}%\n\n\t &  b\n")

    def test_line_breaks(self):
        self.says("a\\newline b", "a\nb\n")
        self.says("a \\\\ b", "a\nb\n")
        self.says("a\\\\\\newline{} \\\\b", "a\n\n\nb\n")
        self.says("\\\\a\\\\", "a\n")

    def test_references(self):
        self.says("\\noteref{abc}", "\n")
        self.says("a\\noteref{n} b", "a b\n")
        self.says("\\ref{a-1.b:c_d}", "a-1.b:c_d\n")
        self.says("a\\ref{ b }c", "abc\n")

    def test_citations(self):
        self.says("\\cite{a}", "a\n")
        self.says("\\cite{a,b}", "a, b\n")
        self.says("x\\cite{ c ,b,c\\,a-1}y", "xc, b, c, a-1y\n")
        self.says("\\cite{a}\\cite{b}", "ab\n")

    def test_styled_elements(self):
        for name in "emph", "strong", "strike", "super", "sub", "caps":
            self.says("a\\" + name + "{b}c", "abc\n")
            self.says("\\" + name + "{a\\" + name + "{b} $x$}", "ab x\n")
        self.says("\\emph{a \\strong{b\\\\\\caps{c}} \\sub{\\ref{d}}}e", "a b\nc de\n")
        self.says("\\emph{}a\\emph{ }b", "a b\n")

    def test_links_images_and_spans(self):
        self.says("\\link{t}{a}", "a\n")
        self.says("\\link{t}{}", "")
        self.says("\\image{t}{a b}", "a b\n")
        self.says("\\image{t}{}", "\n")
        self.says("\\image{t}{ \\\\ }", "\n")
        self.says("\\span{x}{a}\\span{}{b}\\span{y,z}{c}", "abc\n")
        self.says("\\link{t}{a\\image{u}{b\\span{x}{\\emph{c}}\\noteref{n}}\\cite{d,e}}", "abcd, e\n")


class Blocks(Case):
    def test_no_blocks(self):
        for text in "", " \n\n\t", "%a", "{}", "\\newcommand\\a{b}", "\\emph{}\n\n\\ \\\\", "\\begin{quote}\\end{quote}":
            self.says(text, "")

    def test_paragraphs(self):
        self.says("a\n\nb\n\n\n\nc", "a\nb\nc\n")

    def test_headings(self):
        self.says("\\section[x]{a\\emph{b}}", "ab\n")
        self.says("\\heading{6}{a}\\subsection{b}\\subsubsection[i]{}", "a\nb\n\n")

    def test_rules(self):
        self.says("\\rule", "")
        self.says("a\\rule b\\rule\\rule", "a\nb\n")

    def test_codes_and_formulas(self):
        for name in "code", "formula":
            begin, end = "\\begin{" + name + "}", "\\end{" + name + "}"
            self.says(begin + "{}\n" + end, "\n")
            self.says(begin + "{}\n\n" + end, "\n")
            self.says(begin + "{}\n\n\n" + end, "\n\n")
            self.says(begin + "{abc}\na\n" + end, "a\n")
            self.says(begin + "{}\na\n\n" + end, "a\n\n")
            self.says("x" + begin + "{}\n  a\t{%\\\r\n &\n" + end + "y", "x\n  a\t{%\\\r\n &\ny\n")

    def test_quotes_groups_and_notes(self):
        self.says("\\begin{quote}a\n\nb\\end{quote}c", "a\nb\nc\n")
        self.says("\\begin{group}{x,y}a\n\nb\\end{group}c", "a\nb\nc\n")
        self.says("\\begin{group}{}a\\end{group}b", "a\nb\n")
        self.says("\\begin{note}{n}a\n\nb\\end{note}c", "a\nb\nc\n")
        self.says("\\begin{note}{n}\\end{note}", "")
        self.says("a\\begin{quote}b\\begin{note}{n}c\\begin{group}{x}d\\end{group}\\end{note}e\\end{quote}f",
                  "a\nb\nc\nd\ne\nf\n")

    def test_bullet_lists_and_numbered_lists(self):
        for name in "itemize", "enumerate":
            self.says("\\begin{" + name + "}\\item a\\item\\item b\n\nc\\end{" + name + "}", "a\nb\nc\n")
            self.says("\\begin{" + name + "}\\item\\end{" + name + "}", "")
        self.says("\\begin{enumerate}[12]\\item a\\begin{itemize}\\item b\\rule\\item c\\end{itemize}\\item d"
                  "\\end{enumerate}e", "a\nb\nc\nd\ne\n")

    def test_term_lists(self):
        self.says("\\begin{description}\\term{a}b\n\nc\\term{d}\\term{}e\\end{description}", "a\nb\nc\nd\n\ne\n")
        self.says("\\begin{description}\\term{}\\end{description}", "\n")
        self.says("\\begin{description}\\term{\\emph{a}\\noteref{b} $c$}\\rule\\begin{description}\\term{d}e"
                  "\\end{description}\\end{description}", "a c\nd\ne\n")

    def test_tables(self):
        self.says("\\begin{table}{t}{l}{}a\\\\\\end{table}", "a\n")
        self.says("\\begin{table}{t}{nlcr}{}a&b&c&d\\\\e&f&g&h\\end{table}", "a\tb\tc\td\ne\tf\tg\th\n")
        self.says("\\begin{table}{t}{lr}{c \\emph{d}}a & b \\\\ & \\\\ c & \\end{table}", "c d\na\tb\n\t\nc\t\n")
        self.says("\\begin{table}{t}{l}{}\\\\\\end{table}x", "\nx\n")
        self.says("\\begin{table}{t}{l}{}a\\\\\\\\b\\end{table}", "a\n\nb\n")
        self.says("\\begin{table}{t}{ll}{}\\noteref{a}&{b\\\\c}\\\\\\end{table}", "\tb\nc\n")

    def test_captions_of_tables(self):
        for caption in "", " ", "\\emph{}", "\\\\", "{\\ }":
            self.says("\\begin{table}{}{l}{" + caption + "}a\\end{table}", "a\n")
        # These captions have no plain text, but they aren't empty.
        for caption in "\\noteref{n}", "\\verb||", "\\image{t}{}":
            self.says("\\begin{table}{}{l}{" + caption + "}a\\end{table}", "\na\n")

    def test_figures(self):
        self.says("\\begin{figure}{f}{t}a \\emph{b}\\\\c\\end{figure}", "a b\nc\n")
        self.says("\\begin{figure}{f}{t}\\end{figure}", "\n")
        self.says("a\\begin{figure}{}{}\n\n b\n\n\\end{figure}c", "a\nb\nc\n")

    def test_blocks_in_every_list_of_blocks(self):
        inner = "\\section{a}\\begin{code}{}\nb\n\\end{code}\\begin{table}{}{ll}{c}d&e\\end{table}"
        for front, back in (
            ("\\begin{quote}", "\\end{quote}"), ("\\begin{itemize}\\item ", "\\end{itemize}"),
            ("\\begin{enumerate}\\item ", "\\end{enumerate}"), ("\\begin{group}{x}", "\\end{group}"),
            ("\\begin{note}{x}", "\\end{note}"),
        ):
            self.says("x" + front + inner + back + "y", "x\na\nb\nc\nd\te\ny\n")
        self.says("\\begin{description}\\term{x}" + inner + "\\term{y}\\end{description}", "x\na\nb\nc\nd\te\ny\n")


class Expansion(Case):
    def test_macros_environments_conditions_and_counters(self):
        self.says("\\newcommand\\a[2][x]{\\emph{#1}#2}\\a{b}\\a[c]{d}", "xbcd\n")
        self.says("\\newenvironment{e}[1]{\\begin{note}{#1}}{z\\end{note}}\\begin{e}{n}a\\end{e}", "az\n")
        self.says("\\ifempty{}{a}{b}\\ifsame{a}{b}{c}{d}", "ad\n")
        self.says("\\newcounter{c}\\setcounter{c}{14}\\arabic{c}.\\roman{c}.\\alph{c}", "14.xiv.n\n")
        self.says("\\newcommand\\a{b\n\n}\\a\\a", "b\nb\n")

    def test_losses_are_no_errors(self):
        self.says("\\verb#|!+/\"':;,.?=*-@^_<>()#", "|!+/\"':;,.?=*-@^_<>()\n")

    def test_texts_of_600_bytes(self):
        self.says("a" * 600, "a" * 600 + "\n")
        self.says("\u00e4" * 300, "\u00e4" * 300 + "\n")
        self.says("a\n\n" * 200, "a\n" * 200)
        self.says("\\section{}" * 60, "\n" * 60)
        self.says("{" * 299 + "ab" + "}" * 299, "ab\n")
        self.says("\\emph{" * 85 + "abcde" + "}" * 85, "abcde\n")
        self.says("%" + "a" * 599, "")
        self.says(" " * 600, "")

    def test_a_plain_text_longer_than_the_text(self):
        self.says("\\newcommand\\a[1]{#1#1#1#1#1#1#1#1#1#1}\\a{\\a{\\a{b}}}", "b" * 1000 + "\n")


class Errors(Case):
    def notes(self, depth, inner):
        head = "\\newcommand\\a[1]{\\begin{note}{n}#1\\end{note}}"
        return head + "\\a{" * depth + inner + "}" * depth

    def test_a_text_that_is_not_valid(self):
        for wrong in [0xff], [0xc3], [0xed, 0xa0, 0x80], [0xc0, 0x80]:
            for text in "", "a", "{", "\\x", "&", self.notes(20, ""):
                self.assertEqual(self.ask(markup.plain_text, data(text) + wrong), [-24], text)

    def test_errors_of_each_stage(self):
        for text in "$", "a#x", "\\verb", "{", "}", "\\x", "\\stepcounter{a}", "&", "\\item", "\\emph", "{\n\n}":
            self.assertEqual(self.ask(markup.plain_text, text), [-20], text)
            self.assertEqual(self.ask(markup.plain_text, self.notes(20, "") + text), [-20], text)

    def test_depth(self):
        self.says(self.notes(15, "x"), "x\n")
        self.says(self.notes(14, "\\emph{x}"), "x\n")
        for depth, inner in (17, ""), (16, "x"), (15, "\\emph{x}"), (15, "\\begin{group}{a}x\\end{group}"):
            self.assertEqual(self.ask(markup.plain_text, self.notes(depth, inner)), [-28], inner)
        self.assertEqual(self.ask(markup.plain_text, "\\image{}{" * 54 + "x" + "}" * 54), [-28])
        self.says("\\begin{group}{}" * 20 + "x" + "\\end{group}" * 20, "x\n")

    def test_nothing_is_kept_between_calls(self):
        self.says("\\newcommand\\a{x}\\newcounter{c}\\a", "x\n")
        self.assertEqual(self.ask(markup.plain_text, "\\a"), [-20])
        self.says("", "")
        self.says("\\newcommand\\a{x}\\newcounter{c}\\a", "x\n")


def inlines_plain(elements):
    """The plain text of inline elements of the model, by the words of the document."""
    text = ""
    for kind, *parts in elements:
        if kind in ("text", "code", "math", "ref"):
            text += parts[0]
        elif kind == "break":
            text += "\n"
        elif kind == "cite":
            text += ", ".join(parts)
        elif kind not in LEAVES:
            text += inlines_plain(parts[1])
    return text


def blocks_plain(blocks):
    text = ""
    for kind, fields, children in blocks:
        if kind in ("para", "heading", "figure"):
            text += inlines_plain(children) + "\n"
        elif kind in ("code", "formula"):
            text += fields[1] + "\n"
        elif kind in ("bullets", "numbers"):
            text += "".join([blocks_plain(item) for item in children])
        elif kind == "terms":
            text += "".join([inlines_plain(term) + "\n" + blocks_plain(inner) for term, inner in children])
        elif kind == "table":
            caption, columns, rows = children
            text += inlines_plain(caption) + "\n" if caption else ""
            text += "".join(["\t".join([inlines_plain(cell) for cell in row]) + "\n" for row in rows])
        else:
            text += blocks_plain(children)
    return text


class Model(Case):
    def test_made_documents(self):
        asked = 0
        for seed in range(4000):
            blocks = normal_blocks(make_blocks(Numbers(seed), 3))
            text = "" if blocks_lost(blocks) else blocks_text(blocks)
            if text and len(data(text)) <= 600:
                self.says(text, blocks_plain(blocks))
                asked += 1
        self.assertGreater(asked, 1000)


if __name__ == "__main__":
    unittest.main()
