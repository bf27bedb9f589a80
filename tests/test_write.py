"""Operation write: the text of a document, and that it is read back as the same document in normal form."""

import unittest

from helper import Case, shown
from macromarkup import markup

ESCAPED = "{}$%&#~[]"


class Blocks(Case):
    def test_the_answer_is_the_length_and_the_bytes(self):
        self.assertEqual(self.ask(markup.write, "(rule)"), [5] + list(b"\\rule"))
        self.assertEqual(self.ask(markup.write, '(para "\u20ac")'), [3, 226, 130, 172])

    def test_an_empty_document(self):
        self.writes("", "")

    def test_examples_of_the_document(self):
        self.writes('(bullets (item (para "a%")) (item))', "\\begin{itemize}\n\\item a\\%\n\\item\n\\end{itemize}")
        self.writes('(table "t" (caption) (align left) (row (cell "a" (code "|"))))',
                    "\\begin{table}{t}{l}{}\na\\verb!|! \\\\\n\\end{table}")

    def test_paragraphs(self):
        self.writes('(para "a b")', "a b")
        self.writes('(para "a")\n(para "b")\n(para "c")', "a\n\nb\n\nc")

    def test_headings(self):
        for level in range(1, 7):
            self.writes(f'(heading {level} "" "a")', "\\heading{" + str(level) + "}{a}")
            self.writes(f'(heading {level} "x.1")', "\\heading[x.1]{" + str(level) + "}{}")
        self.writes('(heading 1 "")', "\\heading{1}{}")
        self.writes('(heading 2 "" "[a] " (emph "b"))', "\\heading{2}{\\[a\\] \\emph{b}}")

    def test_codes_and_formulas(self):
        for name in "code", "formula":
            begin, end = "\\begin{" + name + "}", "\\end{" + name + "}"
            self.writes("(" + name + ' "" "")', begin + "{}\n" + end)
            self.writes("(" + name + ' "c-1" "a")', begin + "{c-1}\na\n" + end)
            self.writes("(" + name + ' "" "\\n")', begin + "{}\n\n\n" + end)
            self.writes("(" + name + ' "" "a\\n")', begin + "{}\na\n\n" + end)
            self.writes("(" + name + ' "" "\\n a%{\\\\\\t\u20ac\\n\\n#")', begin + "{}\n\n a%{\\\t\u20ac\n\n#\n" + end)
            self.writes("(" + name + ' "" "\\u{d}\\u{0}")', begin + "{}\n\r\0\n" + end)
            self.writes("(" + name + ' "" "a ' + end.replace("\\", "\\\\") + '")', begin + "{}\na " + end + "\n" + end)
        self.writes('(code "" "\\\\end{formula}\\n\\\\end {code}")',
                    "\\begin{code}{}\n\\end{formula}\n\\end {code}\n\\end{code}")
        self.writes('(formula "" "\\\\end{code}\\n$")', "\\begin{formula}{}\n\\end{code}\n$\n\\end{formula}")

    def test_rules(self):
        self.writes("(rule)", "\\rule")
        self.writes('(rule)\n(para "a")\n(rule)\n(rule)', "\\rule\n\na\n\n\\rule\n\n\\rule")

    def test_quotes(self):
        self.writes('(quote (para "a"))', "\\begin{quote}\na\n\\end{quote}")
        self.writes('(quote (para "a") (rule) (note "n" (quote (rule))))',
                    "\\begin{quote}\na\n\n\\rule\n\n\\begin{note}{n}\n\\begin{quote}\n\\rule\n\\end{quote}\n"
                    "\\end{note}\n\\end{quote}")

    def test_groups_and_notes(self):
        self.writes('(group (class "a") (rule))', "\\begin{group}{a}\n\\rule\n\\end{group}")
        self.writes('(group (class "a" "b:c" "a") (para "x") (para "y"))',
                    "\\begin{group}{a,b:c,a}\nx\n\ny\n\\end{group}")
        self.writes('(note "n_1" (para "x") (rule))', "\\begin{note}{n_1}\nx\n\n\\rule\n\\end{note}")
        self.writes('(note "n")', "\\begin{note}{n}\n\\end{note}")

    def test_bullet_lists(self):
        self.writes("(bullets (item))", "\\begin{itemize}\n\\item\n\\end{itemize}")
        self.writes('(bullets (item (para "a") (rule)) (item) (item (bullets (item (para "b")))))',
                    "\\begin{itemize}\n\\item a\n\n\\rule\n\\item\n\\item \\begin{itemize}\n\\item b\n\\end{itemize}\n"
                    "\\end{itemize}")
        self.writes('(bullets (item (code "" "a")) (item (quote (rule))))',
                    "\\begin{itemize}\n\\item \\begin{code}{}\na\n\\end{code}\n"
                    "\\item \\begin{quote}\n\\rule\n\\end{quote}\n\\end{itemize}")

    def test_numbered_lists(self):
        for start in 0, 1, 2, 10, 999999:
            self.writes(f'(numbers {start} (item (para "a")) (item))',
                        "\\begin{enumerate}[" + str(start) + "]\n\\item a\n\\item\n\\end{enumerate}")
        self.writes('(numbers 3 (item (numbers 3 (item))))',
                    "\\begin{enumerate}[3]\n\\item \\begin{enumerate}[3]\n\\item\n\\end{enumerate}\n\\end{enumerate}")

    def test_term_lists(self):
        self.writes("(terms (term ()))", "\\begin{description}\n\\term{}\n\\end{description}")
        self.writes('(terms (term ("a") (para "b") (rule)) (term ((emph "c"))) (term ("d") (rule)))',
                    "\\begin{description}\n\\term{a} b\n\n\\rule\n\\term{\\emph{c}}\n\\term{d} \\rule\n"
                    "\\end{description}")

    def test_two_term_lists_stay_two(self):
        self.writes('(terms (term ("a")))\n(terms (term ("b")))',
                    "\\begin{description}\n\\term{a}\n\\end{description}\n\n"
                    "\\begin{description}\n\\term{b}\n\\end{description}")

    def test_tables(self):
        self.writes('(table "" (caption "c " (ref "x")) (align none left center right) '
                    '(row (cell "a") (cell) (cell "b" (break) "c") (cell "&")) (row (cell) (cell) (cell) (cell)))',
                    "\\begin{table}{}{nlcr}{c \\ref{x}}\na &  & b\\newline{}c & \\& \\\\\n &  &  &  \\\\\n\\end{table}")
        self.writes('(table "t" (caption) (align center) (row (cell "a")) (row (cell)))',
                    "\\begin{table}{t}{c}{}\na \\\\\n \\\\\n\\end{table}")
        self.writes('(table "t" (caption) (align none) (row (cell)))', "\\begin{table}{t}{n}{}\n \\\\\n\\end{table}")
        self.writes('(table "t" (caption) (align right right) (row (cell (code "a")) (cell (math "x\\n\\ny"))))',
                    "\\begin{table}{t}{rr}{}\n\\verb|a| & $x\n\ny$ \\\\\n\\end{table}")

    def test_figures(self):
        self.writes('(figure "f" "a b.png" "c " (emph "d") (break) "e")',
                    "\\begin{figure}{f}{a\\ b.png}\nc \\emph{d}\\newline{}e\n\\end{figure}")
        self.writes('(figure "" "")', "\\begin{figure}{}{}\n\\end{figure}")
        self.writes('(figure "" " \\\\[%] ")', "\\begin{figure}{}{\\ \\backslash{}\\[\\%\\]\\ }\n\\end{figure}")

    def test_blocks_are_separated_by_empty_lines(self):
        self.writes('(heading 1 "" "a")\n(para "b")\n(code "" "")\n(quote (rule))\n(bullets (item))\n(para "c")',
                    "\\heading{1}{a}\n\nb\n\n\\begin{code}{}\n\\end{code}\n\n\\begin{quote}\n\\rule\n\\end{quote}\n\n"
                    "\\begin{itemize}\n\\item\n\\end{itemize}\n\nc")


class Inlines(Case):
    def test_signs_that_are_escaped(self):
        for code in range(32, 127):
            sign = chr(code)
            quoted = sign if sign not in '"\\' else "\\" + sign
            expected = "\\" + sign if sign in ESCAPED else sign
            if sign == "\\":
                expected = "\\backslash{}"
            if sign != " ":
                self.writes('(para "' + quoted + '")', expected)
            self.writes('(para "a' + quoted + 'b")', "a" + expected + "b")
            self.writes('(para (link "' + quoted + '" "b"))',
                        "\\link{" + ("\\ " if sign == " " else expected) + "}{b}")

    def test_other_signs(self):
        for sign in "\0\x01\x0b\x0c\x1f\x7f\x85\u00a0\u00e4\u2028\u3000\ufeff\uffff\U0010ffff":
            quoted = "\\u{%x}" % ord(sign) if sign < " " else sign
            self.writes('(para "' + quoted + '")', sign)
            self.writes('(para (image "' + quoted + '") "a' + quoted + '")', "\\image{" + sign + "}{}a" + sign)

    def test_backslashes(self):
        self.writes('(para "\\\\a\\\\\\\\ b\\\\")', "\\backslash{}a\\backslash{}\\backslash{} b\\backslash{}")
        self.writes('(para "\\\\begin{code}{}")', "\\backslash{}begin\\{code\\}\\{\\}")
        self.writes('(para "\\\\" (break) "\\\\ " (code "\\\\"))',
                    "\\backslash{}\\newline{}\\backslash{} \\verb|\\|")

    def test_codes(self):
        signs = "|!+/\"':;,.?=*-@^_<>()"
        self.writes('(para (code ""))', "\\verb||")
        self.writes('(para (code " a  b "))', "\\verb| a  b |")
        self.writes('(para (code "\\t\\u{d}{%#$"))', "\\verb|\t\r{%#$|")
        for count in range(1, len(signs)):
            text = signs[:count]
            self.writes('(para (code "' + text.replace('"', '\\"') + '"))',
                        "\\verb" + signs[count] + text + signs[count])
            others = signs.replace(signs[count], "")
            self.writes('(para (code "' + others.replace('"', '\\"') + '"))',
                        "\\verb" + signs[count] + others + signs[count])

    def test_math(self):
        self.writes('(para "a " (math " x^2\\\\ ") (math "\\n\\n%#{"))', "a $ x^2\\ $$\n\n%#{$")

    def test_breaks_and_references(self):
        self.writes('(para "a" (break) (break) "b")', "a\\newline{}\\newline{}b")
        self.writes('(para (noteref "a-1") (ref "b:2") " c")', "\\noteref{a-1}\\ref{b:2} c")
        self.writes('(para (cite "a"))', "\\cite{a}")
        self.writes('(para (cite "a" "b" "a") "c")', "\\cite{a,b,a}c")

    def test_styles(self):
        for name in "emph", "strong", "strike", "super", "sub", "caps":
            self.writes("(para (" + name + ' "a"))', "\\" + name + "{a}")
        self.writes('(para (emph "a" (strong "b" (caps "c"))) " d")', "\\emph{a\\strong{b\\caps{c}}} d")

    def test_links_images_and_spans(self):
        self.writes('(para (link "" "a"))', "\\link{}{a}")
        self.writes('(para (link "a b  c" (emph "d") " e"))', "\\link{a\\ b\\ \\ c}{\\emph{d} e}")
        self.writes('(para (image "a.png"))', "\\image{a.png}{}")
        self.writes('(para (image " " "b" (image "c")))', "\\image{\\ }{b\\image{c}{}}")
        self.writes('(para (span (class "a") "b"))', "\\span{a}{b}")
        self.writes('(para (span (class "a" "b" "a") (link "t" (span (class "c") "d"))))',
                    "\\span{a,b,a}{\\link{t}{\\span{c}{d}}}")

    def test_long_labels(self):
        label = "ABCDEFGHIJKLMNOPQRSTUVWXYZ-_.:0123456789"
        self.writes('(para (ref "' + label + '"))', "\\ref{" + label + "}")
        self.writes('(note "' + label + '")', "\\begin{note}{" + label + "}\n\\end{note}")


class NormalForm(Case):
    """What is written is written from the normal form."""

    def test_gaps(self):
        self.writes('(para " a  " "\\t\\n\\u{d} b ")', "a b", '(para "a b")')
        self.writes('(para (break) "a " (break) " b" (break))', "a\\newline{}b", '(para "a" (break) "b")')
        self.writes('(para "a" (emph " b ") "c")', "a \\emph{b} c", '(para "a " (emph "b") " c")')
        self.writes('(para (emph "a" (strong " ")) (emph (break) "b"))', "\\emph{a\\newline{}b}",
                    '(para (emph "a" (break) "b"))')

    def test_wrappers(self):
        self.writes('(para (emph "a" (emph "b")) (emph "c"))', "\\emph{abc}", '(para (emph "abc"))')
        self.writes('(para (link "a" "b" (link "c" "d")) (link "a" "e"))', "\\link{a}{bde}", '(para (link "a" "bde"))')
        self.writes('(para (span (class) "a") (span (class "x") "b") (span (class "x") "c"))', "a\\span{x}{bc}",
                    '(para "a" (span (class "x") "bc"))')
        self.writes('(para "a" (emph) (link "t") (span (class "x")) "" "b")', "ab", '(para "ab")')
        self.writes('(para (link "t" "a" (image "u" (link "v" "b "))))', "\\link{t}{a\\image{u}{\\link{v}{b}}}",
                    '(para (link "t" "a" (image "u" (link "v" "b"))))')

    def test_empty_blocks(self):
        self.writes('(para)(para "")(para " ")(para (emph))(quote)(quote (para))(group (class "a"))(group (class))',
                    "", "")
        self.writes('(bullets (item (para) (quote)))', "\\begin{itemize}\n\\item\n\\end{itemize}", "(bullets (item))")
        self.writes('(note "n" (para))', "\\begin{note}{n}\n\\end{note}", '(note "n")')
        self.writes('(terms (term (" ") (para)))', "\\begin{description}\n\\term{}\n\\end{description}",
                    "(terms (term ()))")

    def test_groups_without_classes(self):
        self.writes('(group (class) (rule) (group (class) (para "a")))', "\\rule\n\na", '(rule)\n(para "a")')
        self.writes('(quote (group (class) (quote (rule))))(group (class) (quote (rule)))',
                    "\\begin{quote}\n\\begin{quote}\n\\rule\n\\end{quote}\n\n\\rule\n\\end{quote}",
                    "(quote (quote (rule)) (rule))")

    def test_joined_neighbours(self):
        self.writes("(bullets (item))(bullets (item (rule)))",
                    "\\begin{itemize}\n\\item\n\\item \\rule\n\\end{itemize}",
                    "(bullets (item) (item (rule)))")
        self.writes("(numbers 3 (item) (item))(para)(numbers 5 (item))(numbers 5 (item))",
                    "\\begin{enumerate}[3]\n\\item\n\\item\n\\item\n\\end{enumerate}\n\n"
                    "\\begin{enumerate}[5]\n\\item\n\\end{enumerate}",
                    "(numbers 3 (item) (item) (item))\n(numbers 5 (item))")
        self.writes('(quote (bullets (item)))(quote (bullets (item)))',
                    "\\begin{quote}\n\\begin{itemize}\n\\item\n\\item\n\\end{itemize}\n\\end{quote}",
                    "(quote (bullets (item) (item)))")

    def test_lists_of_inline_elements(self):
        self.writes('(heading 1 "" " a ")', "\\heading{1}{a}", '(heading 1 "" "a")')
        self.writes('(figure "" "" (break) "a")', "\\begin{figure}{}{}\na\n\\end{figure}", '(figure "" "" "a")')
        self.writes('(table "" (caption " a") (align left) (row (cell "b" " ")))',
                    "\\begin{table}{}{l}{a}\nb \\\\\n\\end{table}",
                    '(table "" (caption "a") (align left) (row (cell "b")))')


class Depth(Case):
    def test_lists_nested_16_deep(self):
        self.writes("(para " + "(image \"\" " * 15 + '"a"' + ")" * 16, "\\image{}{" * 15 + "a" + "}" * 15,
                    "(para " + " ".join(['(image ""'] * 15) + ' "a"' + ")" * 16)
        self.refuses("(para " + "(image \"\" " * 16 + '"a"' + ")" * 17)
        self.writes("(quote " * 15 + '(para "a")' + ")" * 15, "\\begin{quote}\n" * 15 + "a" + "\n\\end{quote}" * 15)
        self.refuses("(quote " * 16 + '(para "a")' + ")" * 16)
        self.writes("(bullets (item " * 7 + '(bullets (item))' + "))" * 7,
                    "\\begin{itemize}\n\\item " * 7 + "\\begin{itemize}\n\\item" + "\n\\end{itemize}" * 8)

    def test_lists_nested_17_deep_that_would_be_16_deep_in_normal_form(self):
        self.refuses("(group (class) " * 16 + "(rule)" + ")" * 16)
        self.writes("(group (class) " * 15 + "(rule)" + ")" * 15, "\\rule", "(rule)")

    def test_a_text_longer_than_600_bytes(self):
        answer = self.ask(markup.write, "(rule)(bullets (item))" * 27)
        expected = "\\rule\n\n\\begin{itemize}\n\\item\n\\end{itemize}"
        self.assertEqual(shown(answer), "\n\n".join([expected] * 27))
        text = shown(self.ask(markup.write, '(para "' + "\\\\" * 295 + '")'))
        self.assertEqual(text, "\\backslash{}" * 295)
        self.assertEqual(shown(markup.read(list(text.encode()))), '(para "' + "\\\\" * 295 + '")')


class Errors(Case):
    def test_losses(self):
        self.assertEqual(self.ask(markup.write, '(para (math ""))'), [-33])
        self.assertEqual(self.ask(markup.write, '(para "a")(para (link "\\n" "x"))'), [-33])

    def test_no_notation(self):
        self.assertEqual(self.ask(markup.write, '(para (math "")'), [-20])
        self.assertEqual(self.ask(markup.write, '(para (math ""))('), [-20])

    def test_nothing_is_kept_between_calls(self):
        self.writes('(para "a")', "a")
        self.refuses('(para "a"')
        self.writes("", "")
        self.loses('(para (math ""))', 2)
        self.writes('(para "a")', "a")


if __name__ == "__main__":
    unittest.main()
