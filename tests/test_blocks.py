"""Operations check and read: the blocks of documents and their errors."""

import unittest

from helper import Case
from macromarkup import markup


class Ordinary(Case):
    def test_examples_of_the_document(self):
        self.checks("$a", 1, 0)
        self.reads("\\begin{itemize}\n\\item a\\%\n\\item\n\\end{itemize}", '(bullets (item (para "a%")) (item))')
        self.reads("\\begin{table}{t}{l}{}\na\\verb!|! \\\\\n\\end{table}",
                   '(table "t" (caption) (align left) (row (cell "a" (code "|"))))')

    def test_no_blocks(self):
        for text in (
            "", " ", "\n\n\n", "%x", "{}", "{ }", "\\emph{}", "\\newcommand\\a{}\\a", "\\ ", "\\newline", "{{}}\n\n{}",
        ):
            self.reads(text, "")
        self.assertEqual(self.ask(markup.read, ""), [0])
        self.assertEqual(self.ask(markup.check, ""), [0, 0])

    def test_paragraphs(self):
        self.reads("a", '(para "a")')
        self.reads("a b\nc\n\nd\n \ne", '(para "a b c")\n(para "d")\n(para "e")')
        self.reads("a\\rule b", '(para "a")\n(rule)\n(para "b")')
        self.reads("a\\section{b}c", '(para "a")\n(heading 1 "" "b")\n(para "c")')
        self.reads("a\\begin{quote}b\\end{quote}c", '(para "a")\n(quote (para "b"))\n(para "c")')
        self.reads("a\\begin{code}{}\nb\n\\end{code}c", '(para "a")\n(code "" "b")\n(para "c")')

    def test_headings(self):
        self.reads("\\section{a}\\subsection{b}\\subsubsection{c}",
                   '(heading 1 "" "a")\n(heading 2 "" "b")\n(heading 3 "" "c")')
        self.reads("\\section[i]{a}\\subsection [ j ] {b}\\subsubsection[k.1-_:]{\\emph{c}}",
                   '(heading 1 "i" "a")\n(heading 2 "j" "b")\n(heading 3 "k.1-_:" (emph "c"))')
        for level in range(1, 7):
            self.reads("\\heading{" + str(level) + "}{a}", '(heading ' + str(level) + ' "" "a")')
        self.reads("\\heading[i]{ 000006 } {}", '(heading 6 "i")')
        self.reads("\\section{}", '(heading 1 "")')
        self.reads("\\section{[a]}", '(heading 1 "" "[a]")')

    def test_wrong_headings(self):
        self.fails_in_tree("x\\section", 4, 1)
        self.fails_in_tree("x\\section a", 4, 1)
        self.fails_in_tree("x\\section[i]a", 4, 1)
        self.fails_in_tree("x\\section\n\n{a}", 4, 1)
        self.fails_in_tree("x\\section[i", 1, 9)
        self.fails_in_tree("x\\section[?]", 5, 1)
        self.fails_in_tree("x\\section[a b]{c}", 5, 1)
        self.fails_in_tree("x\\section[]{c}", 5, 1)
        self.fails_in_tree("x\\section[ ]{c}", 5, 1)
        self.fails_in_tree("x\\section[{i}]{c}", 5, 1)
        self.fails_in_tree("x\\section[" + "a" * 41 + "]{c}", 5, 1)
        self.reads("\\section[" + "a" * 40 + "]{c}", '(heading 1 "' + "a" * 40 + '" "c")')
        self.fails_in_tree("x\\heading{0}", 5, 1)
        self.fails_in_tree("x\\heading{7}{a}", 5, 1)
        self.fails_in_tree("x\\heading{}{a}", 5, 1)
        self.fails_in_tree("x\\heading{one}{a}", 5, 1)
        self.fails_in_tree("x\\heading{0000001}{a}", 5, 1)
        self.fails_in_tree("x\\heading{1}", 4, 1)
        self.fails_in_tree("x\\heading 1{a}", 4, 1)
        self.fails_in_tree("x\\section{a\n\nb}", 9, 11)
        self.fails_in_tree("x\\section{a&b}", 9, 11)
        self.fails_in_tree("x\\section{a\\rule}", 9, 11)
        self.fails_in_tree("x\\section{\\begin{quote}\\end{quote}}", 9, 10)

    def test_codes_and_formulas(self):
        self.reads("\\begin{code}{py}\na\n  b\n\\end{code}\\begin{formula}{f}\nx^2\n\\end{formula}",
                   '(code "py" "a\\n  b")\n(formula "f" "x^2")')
        self.reads("\\begin{code}{}\n\\end{code}", '(code "" "")')
        self.reads("\\begin{code}{}\n\n\\end{code}", '(code "" "")')
        self.reads("\\begin{code}{}\n\n\n\\end{code}", '(code "" "\\n")')
        self.reads("\\begin{formula}{}\n%{\\a#$\n\\end{code}\n\\end{formula}",
                   '(formula "" "%{\\\\a#$\\n\\\\end{code}")')

    def test_a_code_that_is_no_literal_content(self):
        self.fails_in_tree("x\\begin{code}x\\end{code}", 9, 1)
        self.fails_in_tree("x\\begin{formula}{} \n\\end{formula}", 9, 1)
        self.fails_in_expansion("x\\begin{code}", 1, 1)

    def test_quotes_groups_and_notes(self):
        self.reads("\\begin{quote}\\end{quote}", "")
        self.reads("\\begin{quote}\n\na\n\nb\n\n\\end{quote}", '(quote (para "a") (para "b"))')
        self.reads("\\begin{group}{a}b\\end{group}", '(group (class "a") (para "b"))')
        self.reads("\\begin{group} {a , b\\,c}d\\end{group}", '(group (class "a" "b" "c") (para "d"))')
        self.reads("\\begin{group}{}a\\end{group}", '(para "a")')
        self.reads("\\begin{group}{ \\ }a\\end{group}", '(para "a")')
        self.reads("\\begin{group}{a}\\end{group}", "")
        self.reads("\\begin{note}{ n }a\\end{note}", '(note "n" (para "a"))')
        self.reads("\\begin{note}{n}\\end{note}", '(note "n")')

    def test_wrong_groups_and_notes(self):
        self.fails_in_tree("x\\begin{group}\\end{group}", 4, 1)
        self.fails_in_tree("x\\begin{note}a\\end{note}", 4, 1)
        self.fails_in_tree("x\\begin{note}\n\n{n}\\end{note}", 4, 1)
        for labels in "a b", ",", "a,", ",a", "a,,b", "?", "{a}", "a;b", "~", "\\emph", "\n\n", "a" * 41, "\u00e9":
            self.fails_in_tree("x\\begin{group}{" + labels + "}\\end{group}", 5, 1)
        for label in "", " ", "a,b", "?", "\\backslash":
            self.fails_in_tree("x\\begin{note}{" + label + "}\\end{note}", 5, 1)

    def test_what_may_not_stand_among_blocks(self):
        self.fails_in_tree("a&", 9, 1)
        self.fails_in_tree("&", 9, 0)
        self.fails_in_tree("a\\item b", 9, 1)
        self.fails_in_tree("a\n\n\\term{b}", 9, 3)
        self.fails_in_tree("\\begin{quote}a\\item\\end{quote}", 9, 14)
        self.fails_in_tree("\\begin{itemize}\\item\\begin{quote}\\item\\end{quote}\\end{itemize}", 9, 33)
        self.fails_in_tree("{a\n\nb}", 9, 2)
        self.fails_in_tree("{a&b}", 9, 2)
        self.fails_in_tree("{\\section{a}}", 9, 1)
        self.fails_in_tree("{\\begin{quote}\\end{quote}}", 9, 1)
        self.fails_in_tree("{\\begin{code}{}\n\\end{code}}", 9, 1)
        self.fails_in_tree("{a\\item}", 9, 2)


class Lists(Case):
    def test_bullet_lists(self):
        self.reads("\\begin{itemize}\\item\\end{itemize}", "(bullets (item))")
        self.reads("\\begin{itemize}\n\n\\item a\n\n\nb\\item{c}\n\n\\item\n\n\\end{itemize}",
                   '(bullets (item (para "a") (para "b")) (item (para "c")) (item))')
        self.reads("\\begin{itemize}\\item[x]\\end{itemize}", '(bullets (item (para "[x]")))')
        self.reads(
            "\\begin{itemize}\\item\\begin{itemize}\\item a\\item b\\end{itemize}c\\item\\rule\\end{itemize}",
            '(bullets (item (bullets (item (para "a")) (item (para "b"))) (para "c")) (item (rule)))',
        )

    def test_numbered_lists(self):
        self.reads("\\begin{enumerate}\\item a\\end{enumerate}", '(numbers 1 (item (para "a")))')
        self.reads("\\begin{enumerate}[0]\\item a\\end{enumerate}", '(numbers 0 (item (para "a")))')
        self.reads("\\begin{enumerate} [ 0042 ]\\item\\item a\\end{enumerate}", '(numbers 42 (item) (item (para "a")))')
        self.reads("\\begin{enumerate}[999999]\\item\\item\\end{enumerate}", "(numbers 999999 (item) (item))")

    def test_term_lists(self):
        self.reads("\\begin{description}\\term{a}b\n\nc\\term{}\\term {\\emph{d}}\\rule\\end{description}",
                   '(terms (term ("a") (para "b") (para "c")) (term ()) (term ((emph "d")) (rule)))')

    def test_wrong_lists(self):
        for name in "itemize", "enumerate", "description":
            head = "x\\begin{" + name + "}"
            tail = "\\end{" + name + "}"
            self.fails_in_tree(head + tail, 4, 1)
            self.fails_in_tree(head + " \n\n " + tail, 4, 1)
            self.fails_in_tree(head + "y" + tail, 9, len(head))
            self.fails_in_tree(head + "{}" + tail, 9, len(head))
            self.fails_in_tree(head + "&" + tail, 9, len(head))
            self.fails_in_tree(head + "\\rule" + tail, 9, len(head))
            self.fails_in_tree(head + "\\begin{code}{}\n\\end{code}" + tail, 9, len(head))
        self.fails_in_tree("\\begin{itemize}\\term{a}\\end{itemize}", 9, 15)
        self.fails_in_tree("\\begin{itemize}\\item a\\term{a}\\end{itemize}", 9, 22)
        self.fails_in_tree("\\begin{itemize}[1]\\item\\end{itemize}", 9, 15)
        self.fails_in_tree("\\begin{description}\\item a\\end{description}", 9, 19)
        self.fails_in_tree("\\begin{description}\\term{a}\\item\\end{description}", 9, 27)
        self.fails_in_tree("\\begin{description}\\term a\\end{description}", 4, 19)
        self.fails_in_tree("\\begin{description}\\term{&}\\end{description}", 9, 25)
        self.fails_in_tree("\\begin{itemize}\\item a&b\\end{itemize}", 9, 22)
        self.fails_in_tree("\\begin{enumerate}\n\n[1]\\item\\end{enumerate}", 9, 19)
        for number in "", "x", "1000000", "-1", "1 2", "\\item", "{1}":
            self.fails_in_tree("x\\begin{enumerate}[" + number + "]\\end{enumerate}", 5, 1)
        self.fails_in_tree("x\\begin{enumerate}[1\\item\\end{enumerate}", 1, 18)

    def test_errors_come_in_the_order_of_the_text(self):
        self.fails_in_tree("\\begin{itemize}\\end{itemize}&", 4, 0)
        self.fails_in_tree("\\begin{quote}&\\begin{itemize}\\end{itemize}\\end{quote}", 9, 13)


class Tables(Case):
    def table(self, rows, columns="l"):
        return "\\begin{table}{}{" + columns + "}{}" + rows + "\\end{table}"

    def rows(self, rows, *expected, columns="l"):
        names = {"n": "none", "l": "left", "c": "center", "r": "right"}
        align = " ".join(["align"] + [names[column] for column in columns])
        self.reads(self.table(rows, columns), '(table "" (caption) (' + align + ") " + " ".join(expected) + ")")

    def test_arguments(self):
        self.reads("\\begin{table} { t } { nlcr } { a \\emph{b}\\\\c }w&x&y&z\\end{table}",
                   '(table "t" (caption "a " (emph "b") (break) "c") (align none left center right) '
                   '(row (cell "w") (cell "x") (cell "y") (cell "z")))')
        self.rows("a", '(row (cell "a"))')
        self.rows("a&b&c&d", '(row (cell "a") (cell "b") (cell "c") (cell "d"))', columns="ncrl")

    def test_rows_and_cells(self):
        self.rows("a & b \\\\ c & d", '(row (cell "a") (cell "b"))', '(row (cell "c") (cell "d"))', columns="ll")
        self.rows("a&b\\\\&\\\\", '(row (cell "a") (cell "b"))', "(row (cell) (cell))", columns="ll")
        self.rows("\n\na\n\nb\n\n", '(row (cell "a b"))')
        self.rows("\\emph{a\\\\b}\\\\{c\\\\d}",
                  '(row (cell (emph "a" (break) "b")))', '(row (cell "c" (break) "d"))')
        self.rows("a\\newline b", '(row (cell "a" (break) "b"))')

    def test_the_last_row(self):
        self.rows("a\\\\", '(row (cell "a"))')
        self.rows("a\\\\ \n\n { }\\ {}%\n ", '(row (cell "a"))')
        self.rows("a\\\\\\\\", '(row (cell "a"))', "(row (cell))")
        self.rows("\\\\", "(row (cell))")
        self.rows(" \\\\ \\\\ ", "(row (cell))", "(row (cell))")
        for last in "\\emph{}", "\\newline", "\\link{}{}", "\\span{}{ }", "\\image{}{}", "{\\\\}", "$ $", "~":
            text = self.table("a\\\\" + last)
            self.checks(text, 0, 1)
            self.assertIn(b'(cell "a")) (row (cell', bytes(self.ask(markup.read, text)[1:]))
        self.fails_in_tree("x" + self.table("a&b\\\\&\\\\\\emph{}", "ll"), 5, 1)

    def test_wrong_rows(self):
        self.fails_in_tree("x" + self.table(""), 5, 1)
        self.fails_in_tree("x" + self.table(" \n\n "), 5, 1)
        self.fails_in_tree("x" + self.table("", "ll"), 5, 1)
        self.fails_in_tree("x" + self.table("a&b"), 5, 1)
        self.fails_in_tree("x" + self.table("a", "ll"), 5, 1)
        self.fails_in_tree("x" + self.table("a&b\\\\c", "ll"), 5, 1)
        self.fails_in_tree("x" + self.table("a\\\\b&c\\\\"), 5, 1)
        self.fails_in_tree("x" + self.table("a\\\\&"), 5, 1)

    def test_errors_of_a_table_come_after_its_end(self):
        self.fails_in_tree(self.table("a&b\\\\\\rule"), 9, 25)
        self.fails_in_tree(self.table("a&b") + "&", 5, 0)

    def test_what_may_not_stand_in_a_cell(self):
        at = len("\\begin{table}{}{l}{}")
        for wrong in (
            "\\rule", "\\section{a}", "\\begin{quote}\\end{quote}", "\\item", "\\term{a}",
            "\\begin{code}{}\n\\end{code}",
        ):
            self.fails_in_tree(self.table(wrong), 9, at)
        self.fails_in_tree(self.table("{&}"), 9, at + 1)
        self.fails_in_tree(self.table("{\n\n}"), 9, at + 1)
        self.fails_in_tree(self.table("\\emph{a\n\n}"), 9, at + 7)
        self.fails_in_tree(self.table("\\emph\n\n{a}"), 4, at)
        self.reads(self.table("\\emph%\n {a}"), '(table "" (caption) (align left) (row (cell (emph "a"))))')

    def test_wrong_arguments(self):
        for arguments in "", "{}", "{}{l}", "{}{l}\n\n{}", "\n\n{}{l}{}", "a", "{} l{}":
            self.fails_in_tree("x\\begin{table}" + arguments + "\\end{table}", 4, 1)
        for arguments in "{?}", "{a b}{l}{}", "{a,b}{l}{}", "{{}}{l}{}":
            self.fails_in_tree("x\\begin{table}" + arguments + "\\end{table}", 5, 1)
        for columns in "", " ", "x", "l l", "ll,", "L", "{l}", "\\emph", "l&l":
            self.fails_in_tree("x\\begin{table}{}{" + columns + "}", 1, 1)
            self.fails_in_tree("x\\begin{table}{}{" + columns + "}\\end{table}", 5, 1)
        self.fails_in_tree("\\begin{table}{}{l}{a&}\\end{table}", 9, 20)
        self.fails_in_tree("\\begin{table}{}{l}{\n\n}\\end{table}", 9, 19)

    def fails_in_tree(self, text, kind, position):
        if kind == 1:
            self.fails_in_expansion(text, kind, position)
        else:
            Case.fails_in_tree(self, text, kind, position)


class Figures(Case):
    def test_figures(self):
        self.reads("\\begin{figure}{i}{a.png}b\\end{figure}", '(figure "i" "a.png" "b")')
        self.reads("\\begin{figure}{}{}\\end{figure}", '(figure "" "")')
        self.reads("\\begin{figure} { } {a b}\n\n \n\n b \\emph{c}\n\n \n\n\\end{figure}",
                   '(figure "" "a b" "b " (emph "c"))')
        self.reads("\\begin{figure}{}{}a\\\\b\\end{figure}", '(figure "" "" "a" (break) "b")')

    def test_wrong_figures(self):
        head = "\\begin{figure}{}{}"
        at = len(head)
        tail = "\\end{figure}"
        self.fails_in_tree(head + "a\n\nb" + tail, 9, at + 3)
        self.fails_in_tree(head + "{}\n\nb" + tail, 9, at + 4)
        self.fails_in_tree(head + "a&" + tail, 9, at + 1)
        self.fails_in_tree(head + "a\\rule" + tail, 9, at + 1)
        self.fails_in_tree(head + "\\item" + tail, 9, at)
        self.fails_in_tree(head + "\\begin{quote}\\end{quote}" + tail, 9, at)
        self.fails_in_tree(head + "\\begin{code}{}\n\\end{code}" + tail, 9, at)
        self.fails_in_tree(head + "{a\n\n}" + tail, 9, at + 2)
        self.fails_in_tree("x\\begin{figure}" + tail, 4, 1)
        self.fails_in_tree("x\\begin{figure}{}" + tail, 4, 1)
        self.fails_in_tree("x\\begin{figure}{?}" + tail, 5, 1)
        self.fails_in_tree("x\\begin{figure}{}{$a$}" + tail, 5, 1)


class Expanded(Case):
    def test_blocks_from_macros(self):
        self.reads("\\newcommand\\a[1]{\\section{#1}}\\a{x}\\a y", '(heading 1 "" "x")\n(heading 1 "" "y")')
        self.reads("\\newenvironment{e}{\\begin{itemize}\\item}{\\end{itemize}}\\begin{e}a\\item b\\end{e}",
                   '(bullets (item (para "a")) (item (para "b")))')
        self.reads("\\newcounter{c}\\newcommand\\s[1]{\\stepcounter{c}\\section[s\\arabic{c}]{#1}}\\s{a}\\s{b}",
                   '(heading 1 "s1" "a")\n(heading 1 "s2" "b")')
        self.reads("\\newcommand\\c[2][]{\\ifempty{#1}{#2}{\\emph{#1}}}\\c{a} \\c[b]{c}", '(para "a " (emph "b"))')
        self.reads("\\newcommand\\a{&}\\begin{table}{}{ll}{}x\\a y\\end{table}",
                   '(table "" (caption) (align left left) (row (cell "x") (cell "y")))')

    def test_positions_are_those_of_the_tokens(self):
        self.fails_in_tree("\\newcommand\\a{x&}\\a", 9, 15)
        self.fails_in_tree("\\newcommand\\a[1]{\\emph#1}\\a{\\rule}", 4, 17)
        self.fails_in_tree("\\newcommand\\a[1]{\\emph{#1}}\\a{\\rule}", 9, 30)
        self.fails_in_tree("\\newenvironment{e}{\\begin{itemize}}{\\end{itemize}}\\begin{e}\\end{e}", 4, 19)

    def test_tokens_expansion_and_tree_are_checked_one_after_another(self):
        self.checks("&\\a$", 1, 3)
        self.checks("&\\a", 3, 1)
        self.checks("&", 9, 0)
        self.checks("\\section[?]{x}{", 1, 14)
        self.checks("\\ref{?}}#", 7, 8)
        self.checks("\\ref{?}}", 2, 7)
        self.checks("\\ref{?}", 5, 0)

    def test_each_kind_of_error(self):
        self.checks("a{", 1, 1)
        self.checks("a}", 2, 1)
        self.checks("a\\b", 3, 1)
        self.checks("a\\emph", 4, 1)
        self.checks("a\\ref{}", 5, 1)
        self.checks("\\newcommand\\a{\\a}\\a", 6, 14)
        self.checks("a#1", 7, 1)
        self.checks("a\\stepcounter{c}", 8, 1)
        self.checks("a&", 9, 1)


class Depth(Case):
    def notes(self, depth, inner):
        """Notes in one another, as deep as that, with something in them; a macro keeps the text short."""
        head = "\\newcommand\\a[1]{\\begin{note}{n}#1\\end{note}}"
        return head + "\\a{" * depth + inner + "}" * depth

    def test_16_lists(self):
        self.reads(self.notes(15, "x"), '(note "n" ' * 15 + '(para "x")' + ")" * 15, 1)
        self.reads(self.notes(16, ""), '(note "n" ' * 15 + '(note "n")' + ")" * 15, 1)
        self.reads(self.notes(14, "\\emph{x}"),
                   '(note "n" ' * 14 + '(para (emph "x"))' + ")" * 14, 1)

    def test_17_lists(self):
        for depth, inner in (
            (17, ""), (16, "x"), (15, "\\emph{x}"), (14, "\\emph{\\caps{x}}"), (15, "$x$"), (14, "\\span{a}{x}"),
            (15, "\\image{}{}"), (14, "\\begin{itemize}\\item x\\end{itemize}"), (15, "\\begin{group}{a}x\\end{group}"),
            (14, "\\begin{description}\\term{}\\end{description}"), (14, "\\begin{table}{}{l}{}\\\\\\end{table}"),
        ):
            text = self.notes(depth, inner)
            self.checks(text, 0, 1)
            self.assertEqual(self.ask(markup.read, text), [-28], text)

    def test_empty_parts_are_lists_too(self):
        self.reads(self.notes(14, "\\begin{itemize}\\item\\end{itemize}"),
                   '(note "n" ' * 14 + "(bullets (item))" + ")" * 14, 1)
        self.reads(self.notes(13, "\\begin{description}\\term{}\\end{description}"),
                   '(note "n" ' * 13 + "(terms (term ()))" + ")" * 13, 1)
        self.reads(self.notes(13, "\\begin{table}{}{l}{}\\\\\\end{table}"),
                   '(note "n" ' * 13 + '(table "" (caption) (align left) (row (cell)))' + ")" * 13, 1)
        self.reads(self.notes(13, "\\span{a}{x}"), '(note "n" ' * 13 + '(para (span (class "a") "x"))' + ")" * 13, 1)
        self.reads(self.notes(14, "\\begin{group}{a}x\\end{group}"),
                   '(note "n" ' * 14 + '(group (class "a") (para "x"))' + ")" * 14, 1)

    def test_the_normal_form_counts(self):
        head = "\\newcommand\\a[1]{\\begin{group}{}#1\\end{group}}"
        self.reads(head + "\\a{" * 100 + "x" + "}" * 100, '(para "x")')
        self.reads("\\emph{" * 80 + "x" + "}" * 80, '(para (emph "x"))')

    def test_an_error_comes_before_the_depth(self):
        text = self.notes(20, "x")
        self.assertEqual(self.ask(markup.read, text + "&"), [-20])
        self.assertEqual(self.ask(markup.read, list(text.encode()) + [0xff]), [-24])

    def test_as_deep_as_it_goes(self):
        self.reads("{" * 300 + "}" * 300, "")
        self.reads("{" * 299 + "xy" + "}" * 299, '(para "xy")')
        self.reads("\\sub{" * 100 + "}" * 100, "")
        self.checks("\\emph{\\caps{" * 40 + "x" + "}" * 80, 0, 1)
        self.fails_in_tree("{" * 299 + "&" + "}" * 299, 9, 299)
        self.checks("\\span{a}{" * 54 + "x" + "}" * 54, 0, 1)
        self.checks("\\image{}{" * 54 + "x" + "}" * 54, 0, 1)
        self.checks("\\begin{quote}" * 24 + "x" + "\\end{quote}" * 24, 0, 1)
        body = "{" * 6 + "#1" + "}" * 6
        self.reads("\\newcommand\\a[1]{" + body + "}" + "\\a{" * 140 + "x" + "}" * 140, '(para "x")')
        for around in "\\span{a}{" * 8, "\\image{}{" * 8, "\\link{a}{\\image{}{" * 4:
            text = "\\newcommand\\a[1]{" + around + "#1" + "}" * 8 + "}" + "\\a{" * 40 + "x" + "}" * 40
            self.checks(text, 0, 1)
            self.assertEqual(self.ask(markup.read, text), [-28])

    def test_many_environments_from_macros(self):
        head = "\\newcommand\\a[1]{" + "#1" * 14 + "}"
        text = head + "\\a{\\a{\\begin{note}{n}}}" * 3 + "x" + "\\a{\\a{\\end{note}}}" * 3
        self.checks(text, 0, 1)
        self.assertEqual(self.ask(markup.read, text), [-28])
        self.reads(text.replace("note}{n}", "quote}").replace("note", "quote").replace("x", ""), "")
        self.reads(text.replace("note}{n}", "group}{}").replace("note", "group"), '(para "x")')


if __name__ == "__main__":
    unittest.main()
