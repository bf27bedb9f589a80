"""Operations check and read: inline elements, their normal form, and joined neighbours."""

import unittest

from helper import Case


class Ordinary(Case):
    def inline(self, text, expected):
        """The text is a paragraph with these inline elements."""
        self.reads(text, "(para " + expected + ")", 1)

    def test_texts(self):
        self.inline("a\\%b\\ c~d\\backslash{}e\\backslash f", '"a%b c\u00a0d\\\\e\\\\f"')
        self.inline("[a] 'b' \"c\"", '"[a] \'b\' \\"c\\""')
        self.inline("\u00e9\u20ac\U0001f600", '"\u00e9\u20ac\U0001f600"')
        self.inline("{a}b{ {c}}", '"ab c"')
        self.inline("\\{\\}\\$\\&\\#\\~\\[\\]\\|", '"{}$&#~[]|"')

    def test_escapes_of_the_notation(self):
        self.inline("\"\\backslash\x00\x01\x0b\x1f\x7f", '"\\"\\\\\\u{0}\\u{1}\\u{b}\\u{1f}\x7f"')
        self.inline("\x09\x0e\x0f\x10\x11", '"\\u{e}\\u{f}\\u{10}\\u{11}"')
        self.inline("$a\tb\nc\rd\x10$", '(math "a\\tb\\nc\\u{d}d\\u{10}")')

    def test_codes_and_math(self):
        self.inline("\\verb|a b|$x  y$", '(code "a b") (math "x  y")')
        self.inline("\\verb||", '(code "")')
        self.inline("$ $", '(math " ")')

    def test_line_breaks(self):
        self.inline("a\\\\b\\newline c", '"a" (break) "b" (break) "c"')

    def test_references(self):
        self.inline("\\noteref{n}\\ref{ r.1 }\\cite{a}\\cite{ b , c\\,d }",
                    '(noteref "n") (ref "r.1") (cite "a") (cite "b" "c" "d")')
        self.inline("\\ref {" + "a" * 40 + "}", '(ref "' + "a" * 40 + '")')

    def test_styles(self):
        for name in "emph", "strong", "strike", "super", "sub", "caps":
            self.inline("\\" + name + "{a}b", "(" + name + ' "a") "b"')
            self.inline("\\" + name + " %\n {\\verb|a|}", "(" + name + ' (code "a"))')

    def test_links_images_and_spans(self):
        self.inline("\\link{a}{b}", '(link "a" "b")')
        self.inline("\\image {a} {b}", '(image "a" "b")')
        self.inline("\\image{}{}", '(image "")')
        self.inline("\\span{a}{b}\\span{ a , c }{d}", '(span (class "a") "b") (span (class "a" "c") "d")')
        self.inline("\\span{}{a}\\span{ }{b}", '"ab"')

    def test_targets(self):
        self.inline("\\link{ a \\ b\\%{c{d}}\\backslash{}e~ }{x}", '(link " a  b%cd\\\\e\u00a0 " "x")')
        self.inline("\\image{a\n b%\n c}{}", '(image "a bc")')
        self.inline("\\link{}{x}", '(link "" "x")')
        for wrong in "\\emph", "&", "$x$", "\n\n", "\\\\", "\\newline", "\\verb|x|", "{\\rule}":
            for name in "link", "image":
                self.fails_in_tree("x\\" + name + "{a" + wrong + "}{b}", 5, 1)

    def test_missing_arguments(self):
        for name in "emph strong strike super sub caps noteref ref cite link image span".split():
            self.fails_in_tree("x\\" + name, 4, 1)
            self.fails_in_tree("x\\" + name + " y", 4, 1)
            self.fails_in_tree("x\\" + name + "\n\n{y}", 4, 1)
            self.fails_in_tree("{x\\" + name + "}", 4, 2)
        for name in "link", "image", "span":
            self.fails_in_tree("x\\" + name + "{y}", 4, 1)
            self.fails_in_tree("x\\" + name + "{y}z", 4, 1)

    def test_wrong_labels(self):
        for label in "", " ", "a b", "a,b", "?", "\\backslash", "{a}", "a" * 41, "\u00e9", "\n\n", "$a$", "&":
            self.fails_in_tree("x\\noteref{" + label + "}", 5, 1)
            self.fails_in_tree("x\\ref{" + label + "}", 5, 1)
        for labels in "", " ", "a b", ",", "a,", " , a", "a,,b", "{a}", "\\,", "a\\;b", "\\emph{}":
            self.fails_in_tree("x\\cite{" + labels + "}", 5, 1)
        for labels in "a b", ",", "a,", ",a", "?":
            self.fails_in_tree("x\\span{" + labels + "}{y}", 5, 1)

    def test_each_argument_is_checked_as_soon_as_it_has_been_read(self):
        self.fails_in_tree("x\\link{&}", 5, 1)
        self.fails_in_tree("x\\span{?}", 5, 1)
        self.fails_in_tree("x\\span{?}{&}", 5, 1)
        self.fails_in_tree("x\\link{a}{&}", 9, 10)

    def test_what_may_not_stand_in_an_inline_argument(self):
        for name in "emph", "link{a}", "image{a}", "span{}":
            for wrong in (
                "\n\n", "&", "\\item", "\\term{a}", "\\rule", "\\section{a}", "\\heading{1}{a}",
                "\\begin{quote}\\end{quote}", "\\begin{code}{}\n\\end{code}", "\\begin{formula}{}\n\\end{formula}",
            ):
                self.fails_in_tree("x\\" + name + "{y{z" + wrong + "}}", 9, 6 + len(name))


class NormalInlines(Case):
    def inline(self, text, expected):
        self.reads(text, "(para " + expected + ")", 1)

    def test_white_space(self):
        self.inline(" a\\ \\  b ", '"a b"')
        self.inline("{ }a{ }{ }b{ }", '"a b"')
        self.inline("~a~ ~", '"\u00a0a\u00a0 \u00a0"')

    def test_gaps_at_the_ends(self):
        self.inline("\\newline a\\newline", '"a"')
        self.inline("\\emph{ \\newline a }", '(emph "a")')
        self.inline(" \\emph{ }a\\emph{ }", '"a"')

    def test_gaps_become_line_breaks_or_one_space(self):
        self.inline("a \\newline b", '"a" (break) "b"')
        self.inline("a \\newline \\\\ b", '"a" (break) (break) "b"')
        self.inline("a\\emph{ }b", '"a b"')
        self.inline("a\\emph{\\newline}b", '"a" (break) "b"')

    def test_a_gap_has_the_wrappers_that_both_sides_share(self):
        self.inline("\\emph{a }b", '(emph "a") " b"')
        self.inline("a\\emph{ b}", '"a " (emph "b")')
        self.inline("\\emph{a} \\emph{b}", '(emph "a b")')
        self.inline("\\emph{a}\\newline\\emph{b}", '(emph "a" (break) "b")')
        self.inline("\\emph{a\\strong{b }}\\strong{c}", '(emph "a" (strong "b")) " " (strong "c")')
        self.inline("\\emph{\\strong{a}} \\emph{\\caps{b}}", '(emph (strong "a") " " (caps "b"))')
        self.inline("\\emph{\\strong{a}}\\caps{ }\\emph{\\strong{b}}", '(emph (strong "a b"))')
        self.inline("\\strong{\\emph{a}} \\emph{\\strong{b}}", '(strong (emph "a")) " " (emph (strong "b"))')

    def test_equal_wrappers_become_one_element(self):
        self.inline("\\emph{a}\\emph{b}", '(emph "ab")')
        self.inline("\\emph{a}\\emph{}\\emph{b}", '(emph "ab")')
        self.inline("\\emph{\\strong{a}}\\emph{\\strong{b}c}", '(emph (strong "ab") "c")')
        self.inline("\\link{x}{a}\\link{x}{b}\\link{y}{c}", '(link "x" "ab") (link "y" "c")')
        self.inline("\\span{x}{a}\\span{x}{b}\\span{x,y}{c}\\span{y,x}{d}\\span{x}{e}",
                    '(span (class "x") "ab") (span (class "x" "y") "c") (span (class "y" "x") "d") '
                    '(span (class "x") "e")')
        self.inline("\\image{x}{a}\\image{x}{a}", '(image "x" "a") (image "x" "a")')
        self.inline("\\emph{\\verb|a|}\\emph{$b$}", '(emph (code "a") (math "b"))')
        self.inline("\\emph{\\strong{a}b}\\emph{\\strong{c}}", '(emph (strong "a") "b" (strong "c"))')

    def test_superfluous_wrappers(self):
        self.inline("\\emph{a\\emph{b}}", '(emph "ab")')
        self.inline("\\emph{\\strong{\\emph{a}}}", '(emph (strong "a"))')
        self.inline("\\link{x}{\\strong{\\link{y}{a}}}", '(link "x" (strong "a"))')
        self.inline("\\link{x}{\\image{y}{\\link{z}{a}}}", '(link "x" (image "y" (link "z" "a")))')
        self.inline("\\emph{\\span{}{\\emph{a}}}", '(emph "a")')
        self.inline("\\span{a}{\\span{a}{b}}", '(span (class "a") (span (class "a") "b"))')
        self.inline("\\emph{\\span{x}{\\emph{a}}}", '(emph (span (class "x") "a"))')

    def test_elements_without_content(self):
        self.reads("\\emph{}\\link{a}{}\\span{a}{ }", "")
        self.inline("a\\emph{\\strong{}}b", '"ab"')
        self.inline("\\emph{\\image{}{}}", '(emph (image ""))')

    def test_images_are_on_their_own(self):
        self.inline("a \\image{x}{ b } c", '"a " (image "x" "b") " c"')
        self.inline("\\emph{\\image{x}{\\emph{a} \\emph{\\emph{b}}}}", '(emph (image "x" (emph "a b")))')
        self.inline("\\image{x}{\\image{y}{ \\newline}}", '(image "x" (image "y"))')
        self.inline("a\\image{x}{}\\newline\\image{y}{}", '"a" (image "x") (break) (image "y")')

    def test_every_list_of_inline_elements(self):
        self.reads(
            "\\section{ a }\\begin{description}\\term{ b }\\end{description}"
            "\\begin{table}{}{l}{ c } d \\end{table}\\begin{figure}{}{} e \\end{figure}",
            '(heading 1 "" "a")\n(terms (term ("b")))\n(table "" (caption "c") (align left) (row (cell "d")))\n'
            '(figure "" "" "e")',
        )


class NormalBlocks(Case):
    def quote(self, content):
        return "\\begin{quote}" + content + "\\end{quote}"

    def group(self, content, labels=""):
        return "\\begin{group}{" + labels + "}" + content + "\\end{group}"

    def bullets(self, content):
        return "\\begin{itemize}" + content + "\\end{itemize}"

    def numbers(self, start, content):
        return "\\begin{enumerate}[" + str(start) + "]" + content + "\\end{enumerate}"

    def test_quotes(self):
        self.reads(self.quote("a") + self.quote("b"), '(quote (para "a") (para "b"))')
        self.reads(self.quote("a") + "{}" + self.quote("b") + self.quote("c"),
                   '(quote (para "a") (para "b") (para "c"))')
        self.reads(self.quote("a") + "b" + self.quote("c"), '(quote (para "a"))\n(para "b")\n(quote (para "c"))')
        self.reads(self.quote("a" + self.quote("b")) + self.quote(self.quote("c") + "d"),
                   '(quote (para "a") (quote (para "b") (para "c")) (para "d"))')
        self.reads(self.quote(self.bullets("\\item a")) + self.quote(self.bullets("\\item b") + "c"),
                   '(quote (bullets (item (para "a")) (item (para "b"))) (para "c"))')
        self.reads(
            self.quote(self.quote(self.numbers(1, "\\item"))) + self.quote(self.quote(self.numbers(2, "\\item"))),
            "(quote (quote (numbers 1 (item) (item))))",
        )
        self.reads(self.quote(self.quote("")) + self.quote("{}"), "")

    def test_bullet_lists(self):
        self.reads(self.bullets("\\item a") + self.bullets("\\item\\item b"),
                   '(bullets (item (para "a")) (item) (item (para "b")))')
        self.reads(self.bullets("\\item") + "\\rule" + self.bullets("\\item"),
                   "(bullets (item))\n(rule)\n(bullets (item))")
        first, second = self.bullets("\\item a"), self.bullets("\\item b")
        self.reads(self.bullets("\\item" + first) + self.bullets("\\item" + second),
                   '(bullets (item (bullets (item (para "a")))) (item (bullets (item (para "b")))))')
        self.reads(self.bullets("\\item" + self.quote("a") + self.quote("b")),
                   '(bullets (item (quote (para "a") (para "b"))))')

    def test_numbered_lists(self):
        self.reads(self.numbers(1, "\\item\\item") + self.numbers(3, "\\item") + self.numbers(4, "\\item"),
                   "(numbers 1 (item) (item) (item) (item))")
        self.reads(self.numbers(1, "\\item\\item") + self.numbers(2, "\\item"),
                   "(numbers 1 (item) (item))\n(numbers 2 (item))")
        self.reads(self.numbers(1, "\\item") + self.numbers(1, "\\item") + self.numbers(2, "\\item"),
                   "(numbers 1 (item))\n(numbers 1 (item) (item))")
        self.reads(self.numbers(1, "\\item") + self.bullets("\\item") + self.numbers(2, "\\item"),
                   "(numbers 1 (item))\n(bullets (item))\n(numbers 2 (item))")
        self.reads(self.numbers(999999, "\\item") + self.numbers(0, "\\item"),
                   "(numbers 999999 (item))\n(numbers 0 (item))")

    def test_other_neighbours_stay(self):
        self.reads("\\rule\\rule", "(rule)\n(rule)")
        self.reads(self.group("a", "x") + self.group("b", "x"),
                   '(group (class "x") (para "a"))\n(group (class "x") (para "b"))')
        term = "\\begin{description}\\term{a}\\end{description}"
        self.reads(term + term, '(terms (term ("a")))\n(terms (term ("a")))')
        note = "\\begin{note}{a}b\\end{note}"
        self.reads(note + note, '(note "a" (para "b"))\n(note "a" (para "b"))')

    def test_groups(self):
        self.reads(self.group("a" + self.group("b\n\nc")) + "d", '(para "a")\n(para "b")\n(para "c")\n(para "d")')
        self.reads(self.group(self.group("{}", "x") + self.group("", "y")), "")
        self.reads(self.quote("a") + self.group(self.quote("b")) + self.quote("c"),
                   '(quote (para "a") (para "b") (para "c"))')
        self.reads(self.bullets("\\item") + self.group(self.group("") + self.group(self.bullets("\\item"))),
                   "(bullets (item) (item))")
        self.reads(self.quote(self.group("")) + self.group(self.numbers(1, "\\item")) + self.numbers(2, "\\item"),
                   "(numbers 1 (item) (item))")
        self.reads(self.group(self.quote("a") + self.quote("b"), "x"),
                   '(group (class "x") (quote (para "a") (para "b")))')

    def test_empty_blocks(self):
        self.reads("{}\n\n\\emph{}\n\na", '(para "a")')
        self.reads("\\section{}\\begin{note}{n}{}\\end{note}" + self.bullets("\\item{}"),
                   '(heading 1 "")\n(note "n")\n(bullets (item))')
        self.reads("\\begin{description}\\term{}{}" + self.quote("") + "\\end{description}", "(terms (term ()))")
        self.reads("\\begin{description}\\term{}" + self.quote("a") + self.quote("b") + "\\end{description}",
                   '(terms (term () (quote (para "a") (para "b"))))')
        self.reads("\\begin{note}{n}" + self.group("a") + "\\end{note}", '(note "n" (para "a"))')


if __name__ == "__main__":
    unittest.main()
