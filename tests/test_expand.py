"""Operation expand: what the expansion puts out, as a text, and its errors."""

import unittest

from helper import Case, data, shown
from macromarkup import markup
from macromarkup.arguments import take_argument
from macromarkup.expansion import expanded
from macromarkup.faults import TextFault
from macromarkup.lexis import CLOSING, COMMAND, MARK, OPENING, PARAMETER, Token
from macromarkup.scan import scanned
from macromarkup.showing import text_of


class TokensAsText(Case):
    def test_each_kind(self):
        self.expands("", "")
        self.expands("a b\t\n c\n\n\nd", "a b c\n\nd")
        self.expands("\\emph {a}\\\\ \\rule\\newline", "\\emph {a}\\\\ \\rule \\newline ")
        self.expands("~\u00a0\\~\\%\\ \\{\u20ac", "~~\\~\\%\\ \\{\u20ac")
        self.expands("{a}&{{}}$x y$", "{a}&{{}}$x y$")
        self.expands("a %b\n c", "a c")
        self.expands("a %b\n\tc %d\n\te%", "a c e")

    def test_spaces_stay_as_many_as_they_are(self):
        self.expands("a %\n\nb", "a  b")

    def test_parameters(self):
        self.assertEqual(text_of([Token(PARAMETER, 0, 1), Token(PARAMETER, 2, 9)]), [35, 49, 35, 57])

    def test_literal_texts_take_the_first_free_sign(self):
        signs = "|!+/\"':;,.?=*-@^_<>()"
        self.expands("\\verb+a b+", "\\verb|a b|")
        self.expands("\\verb!!", "\\verb||")
        self.expands("\\verb!|!", "\\verb!|!")
        for count in range(1, len(signs)):
            text = signs[:count]
            self.expands("\\verb#" + text + "#", "\\verb" + signs[count] + text + signs[count])
        self.expands("\\verb#" + signs + "#", "\\verb|" + signs + "|")

    def test_codes_and_formulas(self):
        self.expands("a\\begin{code}{py}\nb\n\n\\end{code}c", "a\\begin{code}{py}\nb\n\n\\end{code}c")
        self.expands("\\begin{code}{}\n\\end{code}", "\\begin{code}{}\n\\end{code}")
        self.expands("\\begin{code}{}\n\n\\end{code}", "\\begin{code}{}\n\\end{code}")
        self.expands("\\begin{formula}{f}\n%#\n\\end{formula}", "\\begin{formula}{f}\n%#\n\\end{formula}")
        self.expands("\\begin{formula}{}\n\n\n\\end{formula}", "\\begin{formula}{}\n\n\n\\end{formula}")

    def test_environments_of_the_language(self):
        self.expands("\\begin{quote}a\\end{quote}", "\\begin {quote}a\\end {quote}")
        self.expands("\\begin{ quote }\\end{quote }", "\\begin { quote }\\end {quote }")
        self.expands("\\begin %\n {code}\\end{code}", "\\begin {code}\\end {code}")

    def test_commands_of_the_language_are_put_out(self):
        names = (
            "section subsection subsubsection heading rule item term emph strong strike super sub caps noteref ref "
            "cite link image span newline backslash"
        )
        for name in names.split():
            self.expands("\\" + name, "\\" + name + " ")
        for name in "quote itemize enumerate description table figure group note code formula".split():
            text = "\\begin {" + name + "}\\end {" + name + "}"
            self.expands(text, text)

    def test_errors_of_the_tree_are_none_of_the_expansion(self):
        self.expands("\\item&\\emph\\\\", "\\item &\\emph \\\\")


class Groups(Case):
    def test_errors(self):
        self.fails_in_expansion("a}", 2, 1)
        self.fails_in_expansion("a{b{c}", 1, 1)
        self.fails_in_expansion("a{b{c", 1, 3)
        self.fails_in_expansion("\\begin{quote}}", 2, 13)
        self.fails_in_expansion("{\\begin{quote}}\\end{quote}", 2, 14)
        self.fails_in_expansion("{\\begin{quote}", 1, 1)
        self.fails_in_expansion("\\begin{quote}{", 1, 13)

    def test_a_parameter(self):
        self.fails_in_expansion("a#1", 7, 1)
        self.fails_in_expansion("\\newcommand\\a[1]{#1}\\a{b#2}", 7, 24)


class Arguments(Case):
    def test_groups_and_single_tokens(self):
        head = "\\newcommand\\a[1]{<#1>}"
        self.expands(head + "\\a b", "<b>")
        self.expands(head + "\\a{b}c", "<b>c")
        self.expands(head + "\\a %\n %\n b", "<b>")
        self.expands(head + "\\a {b{c}d}", "<b{c}d>")
        self.expands(head + "\\a{}", "<>")
        self.expands(head + "\\a&\\a$x$\\a\\%\\a\\ \\a~", "<&><$x$><\\%><\\ ><~>")
        self.expands(head + "\\a\\rule\\a\\\\", "<\\rule ><\\\\>")
        self.expands(head + "\\a{\n\n}", "<\n\n>")
        self.expands(head + "\\a\\begin{code}{}\nb\n\\end{code}", "<\\begin{code}{}\nb\n\\end{code}>")
        self.expands(head + "\\a[b]", "<[>b]")
        self.expands(head + "\\a{ b }", "< b >")

    def test_errors(self):
        head = "\\newcommand\\a[1]{<#1>}"
        self.assertEqual(len(head), 22)
        self.fails_in_expansion(head + "\\a", 4, 22)
        self.fails_in_expansion(head + "\\a\n\nb", 4, 22)
        self.fails_in_expansion(head + "{\\a}", 4, 23)
        self.fails_in_expansion(head + "\\a{{b}", 1, 24)
        self.fails_in_expansion(head + "\\a%\n ", 4, 22)

    def test_optional_arguments(self):
        head = "\\newcommand\\a[2][d]{#1-#2;}"
        self.expands(head + "\\a b", "d-b;")
        self.expands(head + "\\a[c]b", "c-b;")
        self.expands(head + "\\a [c] b", "c-b;")
        self.expands(head + "\\a %\n [c] b", "c-b;")
        self.expands(head + "\\a[]b", "-b;")
        self.expands(head + "\\a[{]}]b", "{]}-b;")
        self.expands(head + "\\a[\\]]b", "\\]-b;")
        self.expands(head + "\\a\\[b", "d-\\[;b")
        self.expands(head + "\\a[[]b]", "[-b;]")
        self.expands(head + "\\a{[}b", "d-[;b")
        self.expands(head + "\\a[\n\n]b", "\n\n-b;")

    def test_errors_of_optional_arguments(self):
        head = "\\newcommand\\a[1][d]{#1}"
        self.assertEqual(len(head), 23)
        self.fails_in_expansion(head + "\\a[b", 1, 25)
        self.fails_in_expansion(head + "\\a [b", 1, 26)
        self.fails_in_expansion(head + "{\\a[b}]", 1, 26)
        self.fails_in_expansion(head + "{\\a[b}{]c}", 1, 26)
        self.fails_in_expansion(head + "\\a[{]}", 1, 25)
        self.fails_in_expansion(head + "\\a[{]", 1, 25)

    def test_no_optional_argument_skips_nothing(self):
        head = "\\newcommand\\a[1][d]{#1}\\newcommand\\b{ }"
        self.expands(head + "\\a%\n b", "db")
        self.expands(head + "\\a\n\n[b]", "d\n\n[b]")
        self.expands("\\newcommand\\a[1][d]{#1}x\\a{}%\n y", "xd{}y")
        self.expands("\\newcommand\\a[1][d]{#1}\\newcommand\\b[1]{\\a#1}\\b{ x}", "d x")


class Macros(Case):
    def test_definitions(self):
        self.expands("\\newcommand{\\a}{x}\\a", "x")
        self.expands("\\newcommand\\a x\\a", "x")
        self.expands("\\newcommand{\\a }[0]{x}\\a y", "xy")
        self.expands("\\newcommand{\\a} [ 1 ] [d] {x#1}\\a[e]", "xe")
        self.expands("\\newcommand\\a[000009]{#9#1#1}\\a 123456789", "911")
        self.expands("\\newcommand\\a{}\\a", "")
        self.expands("\\newcommand\\Ab{x}\\newcommand\\ab{y}\\Ab\\ab", "xy")
        self.expands("\\newcommand\\name{x}\\name", "x")

    def test_redefinitions(self):
        self.expands("\\newcommand\\a{x}\\renewcommand\\a[1]{y#1}\\a b", "yb")
        self.expands("\\newcommand\\a{x}\\newcommand\\b{\\a}\\renewcommand\\a{y}\\b", "y")
        self.expands("\\newcommand\\a{x}{\\renewcommand\\a{y}\\a}\\a", "{y}x")

    def test_arguments_are_not_filled_again(self):
        self.expands("\\newcommand\\a[2]{#2#1}\\newcommand\\b[1]{\\newcommand\\c[1]{#1}}\\b{#1}\\c{x}", "x")
        self.expands("\\newcommand\\a[1]{\\newcommand\\b{#1}}\\a{x}\\b", "x")

    def test_a_parameter_of_an_inner_definition_belongs_to_the_outer_one(self):
        self.fails_in_expansion("\\newcommand\\a{\\newcommand\\b[1]{#1}}", 7, 0)
        self.expands("\\newcommand\\a[1]{\\newcommand\\b[1]{#1}}\\a x\\b y", "x")

    def test_defaults(self):
        self.expands("\\newcommand\\a[1][{]}]{#1}\\a", "{]}")
        self.expands("\\newcommand\\b{x}\\newcommand\\a[1][\\b]{#1}\\renewcommand\\b{y}\\a", "y")
        self.expands("\\newcommand\\a[1][]{<#1>}\\a", "<>")

    def test_missing_and_unclosed_arguments(self):
        self.fails_in_expansion("x\\newcommand", 4, 1)
        self.fails_in_expansion("x\\newcommand\\a", 4, 1)
        self.fails_in_expansion("x\\newcommand\\a[1]", 4, 1)
        self.fails_in_expansion("x\\newcommand\\a[1][d]", 4, 1)
        self.fails_in_expansion("x\\newcommand\\a[1", 1, 14)
        self.fails_in_expansion("x\\newcommand\\a[1][", 1, 17)
        self.fails_in_expansion("x\\newcommand\\a{", 1, 14)
        self.fails_in_expansion("x\\newcommand{\\a", 1, 12)

    def test_the_number_is_checked_after_all_arguments(self):
        self.fails_in_expansion("\\newcommand\\a[x]{", 1, 16)
        self.fails_in_expansion("\\newcommand\\a[x]{b}", 5, 0)
        self.fails_in_expansion("\\newcommand\\a[]{b}", 5, 0)
        self.fails_in_expansion("\\newcommand\\a[0000001]{b}", 5, 0)
        self.fails_in_expansion("\\newcommand\\rule[x]{b}", 5, 0)
        self.fails_in_expansion("\\newcommand\\a[{1}]{b}", 5, 0)

    def test_wrong_definitions(self):
        for target in "b", "{}", "{\\b\\c}", "{ \\b}", "{\\b{}}", "\\\\", "\\%", "$b$", "&", "\\verb|b|", "{{\\b}}":
            self.fails_in_expansion("x\\newcommand " + target + "{y}", 7, 1)
        self.fails_in_expansion("x\\newcommand#1{y}", 7, 1)
        self.fails_in_expansion("\\newcommand\\a{x}\\newcommand\\a{y}", 7, 16)
        self.fails_in_expansion("\\newcommand\\a{x}{\\newcommand\\a{y}}", 7, 17)
        self.fails_in_expansion("\\newcommand\\a[10]{x}", 7, 0)
        self.fails_in_expansion("\\newcommand\\a[0][d]{x}", 7, 0)
        self.fails_in_expansion("\\newcommand\\a[1]{#2}", 7, 0)
        self.fails_in_expansion("\\newcommand\\a{#1}", 7, 0)
        self.fails_in_expansion("\\newcommand\\a[1]{{#2}}", 7, 0)
        self.fails_in_expansion("\\newcommand\\a[1][#1]{x}", 7, 0)
        self.fails_in_expansion("x\\renewcommand\\a{y}", 7, 1)
        self.fails_in_expansion("\\newcommand\\a{x}\\renewcommand\\a{#1}", 7, 16)
        self.fails_in_expansion("\\renewcommand\\emph{y}", 7, 0)

    def test_no_command_of_the_language_can_be_defined(self):
        names = (
            "newcommand renewcommand newenvironment newcounter setcounter stepcounter arabic roman alph ifempty ifsame "
            "begin end section subsection subsubsection heading rule item term emph strong strike super sub caps "
            "noteref ref cite link image span newline backslash"
        )
        for name in names.split():
            self.fails_in_expansion("\\newcommand{\\" + name + "}{x}", 7, 0)
            self.fails_in_expansion("\\renewcommand{\\" + name + "}{x}", 7, 0)

    def test_unknown_commands(self):
        self.fails_in_expansion("a\\b", 3, 1)
        self.fails_in_expansion("\\newcommand\\a{x\\b}\\a", 3, 15)
        self.fails_in_expansion("\\quote", 3, 0)
        self.fails_in_expansion("\\name", 3, 0)
        self.fails_in_expansion("\\Emph", 3, 0)


class Scopes(Case):
    def test_definitions_end_with_their_group(self):
        self.expands("{\\newcommand\\a{x}\\a}", "{x}")
        self.fails_in_expansion("{\\newcommand\\a{x}}\\a", 3, 18)
        self.expands("{\\newcommand\\a{x}}\\newcommand\\a{y}\\a", "{}y")
        self.fails_in_expansion("\\emph{\\newcommand\\a{x}}\\a", 3, 23)

    def test_definitions_end_with_their_environment(self):
        self.expands("\\begin{quote}\\newcommand\\a{x}{\\a}\\end{quote}", "\\begin {quote}{x}\\end {quote}")
        self.fails_in_expansion("\\begin{quote}\\newcommand\\a{x}\\end{quote}\\a", 3, 40)
        self.fails_in_expansion("\\begin{quote}\\newenvironment{e}{}{}\\end{quote}\\begin{e}\\end{e}", 3, 46)

    def test_definitions_are_those_of_the_innermost_scope(self):
        self.fails_in_expansion("{\\newcommand\\a{x}\\newcommand\\a{y}}", 7, 17)
        self.expands("{\\newcommand\\a{x}\\renewcommand\\a{y}\\a}", "{y}")
        self.fails_in_expansion("{\\newenvironment{e}{}{}\\newenvironment{e}{}{}}", 7, 23)
        self.expands("{\\newenvironment{e}{x}{}}\\newenvironment{e}{y}{}\\begin{e}\\end{e}", "{}y")

    def test_a_group_of_a_definition_or_an_argument_has_no_scope(self):
        self.expands("\\newcommand\\a{\\newcommand\\b{x}}\\a\\b", "x")
        self.expands("\\ifempty{}{\\newcommand\\b{x}}{}\\b", "x")
        self.fails_in_expansion("\\newcommand\\a{{\\newcommand\\b{x}}}\\a\\b", 3, 35)

    def test_counters_have_no_scope(self):
        self.expands("{\\newcounter{c}\\stepcounter{c}}\\arabic{c}", "{}1")


class Environments(Case):
    def test_definitions(self):
        self.expands("\\newenvironment{e}{<}{>}\\begin{e}x\\end{e}", "<x>")
        self.expands("\\newenvironment{e}[2]{<#2#1}{>}\\begin{e}ab\\end{e}", "<ba>")
        self.expands("\\newenvironment{e} [1] {<#1} {>} \\begin {e} {a b} x\\end { e }", " <a b x>")
        self.expands("\\newenvironment e<>\\begin e x\\end e", "< x>")
        self.expands("\\newenvironment{a-1.b:c_d}{}{}\\begin{a\\-1.b:c\\_d}\\end{a-1.b:c_d}", "")

    def test_first_can_begin_what_last_ends(self):
        self.expands(
            "\\newenvironment{e}{\\begin{quote}}{\\end{quote}}\\begin{e}x\\end{e}", "\\begin {quote}x\\end {quote}",
        )
        self.expands(
            "\\newenvironment{e}{<}{>}\\newenvironment{f}{\\begin{e}}{\\end{e}}\\begin{f}x\\begin{f}\\end{f}\\end{f}",
            "<x<>>",
        )

    def test_scopes_and_marks(self):
        head = "\\newenvironment{e}{\\newcommand\\a{x}}{\\a}"
        self.expands(head + "\\begin{e}\\a\\end{e}\\a", "xxx")
        self.fails_in_expansion("\\newenvironment{e}{}{}\\begin{e}\\newcommand\\a{x}\\end{e}\\a", 3, 54)
        self.expands("\\newenvironment{e}{\\begin{quote}\\newcommand\\a{x}}{\\a\\end{quote}}\\begin{e}\\end{e}",
                     "\\begin {quote}x\\end {quote}")
        self.expands("\\newenvironment{e}{}{y}\\begin{e}\\newcommand\\a{x}{\\a}\\end{e}", "{x}y")

    def test_an_argument_ends_at_a_mark(self):
        head = "\\newcommand\\a[1]{#1}"
        self.fails_in_expansion(head + "\\newenvironment{e}{\\a}{}\\begin{e}x\\end{e}", 4, 39)
        self.fails_in_expansion(head + "\\newenvironment{e}{\\a%\n }{}\\begin{e}x\\end{e}", 4, 39)
        self.fails_in_expansion(
            "\\newcommand\\a[1][d]{#1}\\newenvironment{e}{\\a[}{}\\begin{e}x]\\end{e}", 1, 44,
        )
        self.expands("\\newcommand\\a[1][d]{#1}\\newenvironment{e}{\\a}{}\\begin{e}[x]\\end{e}", "d[x]")

    def test_a_group_with_a_mark_in_it_has_no_end(self):
        # No text brings a mark into a group, for what is defined is balanced.
        tokens = [Token(kind, position, None) for position, kind in enumerate((OPENING, MARK, CLOSING))]
        with self.assertRaises(TextFault) as caught:
            take_argument(list(reversed(tokens)), Token(COMMAND, 7, "a"))
        self.assertEqual((caught.exception.kind, caught.exception.position), (1, 0))

    def test_an_argument_of_another_command_ends_at_a_mark(self):
        head = "\\newenvironment{e}{\\setcounter{c}}{}"
        self.fails_in_expansion(head + "\\newcounter{c}\\begin{e}{1}\\end{e}", 4, 19)

    def test_wrong_definitions(self):
        self.fails_in_expansion("x\\newenvironment", 4, 1)
        self.fails_in_expansion("x\\newenvironment{e}", 4, 1)
        self.fails_in_expansion("x\\newenvironment{e}{}", 4, 1)
        self.fails_in_expansion("x\\newenvironment{?}{", 5, 1)
        self.fails_in_expansion("x\\newenvironment{}{}{}", 5, 1)
        self.fails_in_expansion("x\\newenvironment{a b}{}{}", 5, 1)
        self.fails_in_expansion("x\\newenvironment{\\a}{}{}", 5, 1)
        self.fails_in_expansion("x\\newenvironment{e}[x]{}{", 1, 24)
        self.fails_in_expansion("x\\newenvironment{e}[x]{}{}", 5, 1)
        self.fails_in_expansion("x\\newenvironment{quote}[x]{}{}", 5, 1)
        self.fails_in_expansion("x\\newenvironment{e}[10]{}{}", 7, 1)
        self.fails_in_expansion("x\\newenvironment{e}{#1}{}", 7, 1)
        self.fails_in_expansion("x\\newenvironment{e}[1]{}{#1}", 7, 1)
        self.fails_in_expansion("\\newenvironment{e}{}{}{\\newenvironment{e}{}{}}", 7, 23)
        for name in "quote itemize enumerate description table figure group note code formula".split():
            self.fails_in_expansion("\\newenvironment{" + name + "}{}{}", 7, 0)
        self.expands("\\newenvironment{emph}{}{}\\newenvironment{a}[9]{#9}{}\\begin{a}123456789\\end{a}", "9")

    def test_labels_of_1_and_40_characters(self):
        name = "abcdefghij" * 4
        self.expands("\\newenvironment{" + name + "}{<}{>}\\begin{" + name + "}\\end{" + name + "}", "<>")
        self.fails_in_expansion("\\newenvironment{" + name + "k}{<}{>}", 5, 0)

    def test_begin(self):
        self.fails_in_expansion("a\\begin", 4, 1)
        self.fails_in_expansion("a\\begin{", 1, 7)
        self.fails_in_expansion("a\\begin{}", 5, 1)
        self.fails_in_expansion("a\\begin{{quote}}", 5, 1)
        self.fails_in_expansion("a\\begin{$x$}", 5, 1)
        self.fails_in_expansion("a\\begin{unknown}", 3, 1)
        self.fails_in_expansion("a\\begin{quote}", 1, 1)
        self.fails_in_expansion("\\newenvironment{e}[1]{#1}{}\\begin{e}", 4, 27)
        self.fails_in_expansion("\\newenvironment{e}{}{}a\\begin{e}", 1, 23)

    def test_end(self):
        self.fails_in_expansion("a\\end{quote}", 2, 1)
        self.fails_in_expansion("a\\end", 4, 1)
        self.fails_in_expansion("a\\end{?}", 5, 1)
        self.fails_in_expansion("\\begin{quote}\\end{note}", 2, 13)
        self.fails_in_expansion("\\begin{quote}{\\end{quote}}", 2, 14)
        self.fails_in_expansion("\\newenvironment{e}{\\begin{quote}}{}\\begin{e}\\end{quote}", 2, 44)

    def test_an_environment_whose_definition_is_gone_at_its_end(self):
        head = "\\begin{quote}\\newenvironment{e}{\\end{quote}}{x}\\begin{e}"
        self.assertEqual(len(head), 56)
        self.fails_in_expansion(head + "\\end{e}", 3, 56)
        self.expands(head + "\\newenvironment{e}{}{y}\\end{e}", "\\begin {quote}\\end {quote}y")


class Counters(Case):
    def test_values(self):
        self.expands("\\newcounter{c}\\arabic{c}", "0")
        self.expands("\\newcounter c\\stepcounter c\\stepcounter c\\arabic c", "2")
        self.expands("\\newcounter{c}\\setcounter{c}{ 042 }\\arabic{c}", "42")
        self.expands("\\newcounter{c}\\setcounter{ c }{999999}\\stepcounter{c}\\arabic{c}", "1000000")
        self.expands("\\newcounter{a}\\newcounter{b}\\stepcounter{b}\\arabic{a}\\arabic{b}", "01")
        self.expands("\\newcounter{c}\\ref{x\\arabic{c}}", "\\ref {x0}")

    def test_positions_are_those_of_the_command(self):
        done = expanded(scanned([ord(sign) for sign in "\\newcounter{c}\\setcounter{c}{12}a\\arabic{c}b"])).done
        self.assertEqual([(token.kind, token.position, chr(token.value)) for token in done], [
            (2, 32, "a"), (2, 33, "1"), (2, 33, "2"), (2, 43, "b"),
        ])

    def test_roman_numbers(self):
        for value, text in (
            (1, "i"), (3, "iii"), (4, "iv"), (5, "v"), (9, "ix"), (14, "xiv"), (40, "xl"), (49, "xlix"), (90, "xc"),
            (400, "cd"), (944, "cmxliv"), (1994, "mcmxciv"), (3888, "mmmdccclxxxviii"), (3999, "mmmcmxcix"),
        ):
            self.expands("\\newcounter{c}\\setcounter{c}{" + str(value) + "}\\roman{c}", text)
        self.fails_in_expansion("\\newcounter{c}\\roman{c}", 5, 14)
        self.fails_in_expansion("\\newcounter{c}\\setcounter{c}{4000}\\roman{c}", 5, 34)

    def test_letters(self):
        self.expands("\\newcounter{c}\\setcounter{c}{1}\\alph{c}\\setcounter{c}{26}\\alph{c}", "az")
        self.fails_in_expansion("\\newcounter{c}\\alph{c}", 5, 14)
        self.fails_in_expansion("\\newcounter{c}\\setcounter{c}{27}\\alph{c}", 5, 32)

    def test_unknown_counters(self):
        for command in "\\stepcounter{d}", "\\arabic{d}", "\\roman{d}", "\\alph{d}", "\\setcounter{d}{1}":
            self.fails_in_expansion("\\newcounter{c}" + command, 8, 14)

    def test_wrong_arguments(self):
        self.fails_in_expansion("\\newcounter{c}\\newcounter{c}", 7, 14)
        for name in "newcounter", "stepcounter", "arabic", "roman", "alph":
            self.fails_in_expansion("x\\" + name, 4, 1)
            for label in "{}", "{a b}", "?", "{" + "a" * 41 + "}", "{\u00e9}", "{\n\n}", "{\\emph}":
                self.fails_in_expansion("x\\" + name + label, 5, 1)
        self.fails_in_expansion("x\\setcounter{?}", 4, 1)
        self.fails_in_expansion("x\\setcounter{?}{", 1, 15)
        self.fails_in_expansion("x\\setcounter{?}{1}", 5, 1)
        for number in "{}", "{x}", "{1000000}", "{1 2}", "{-1}", "{\u0661}":
            self.fails_in_expansion("x\\setcounter{d}" + number, 5, 1)

    def test_spaces_at_both_ends(self):
        self.expands("\\newcounter{\\ c }\\setcounter{c\\ }{ \\ 7\\ }\\arabic{ \\ c}", "7")
        self.fails_in_expansion("\\newcounter{~c}", 5, 0)


class Conditions(Case):
    def test_ifempty(self):
        self.expands("\\ifempty{}{a}{b}", "a")
        self.expands("\\ifempty{ %\n %\n }{a}{b}", "a")
        self.expands("\\ifempty{\\ }{a}{b}", "b")
        self.expands("\\ifempty{\n\n}{a}{b}", "b")
        self.expands("\\ifempty{{}}{a}{b}", "b")
        self.expands("\\ifempty{~}{a}{b}", "b")
        self.expands("\\ifempty x a b c", "b c")
        self.expands("\\newcommand\\c{}\\ifempty{\\c}{a}{b}", "b")

    def test_ifsame(self):
        for first, second in (
            ("", ""), (" ", ""), ("a", "a"), (" a b ", "a\tb"), ("~", "\u00a0"), ("\\verb|a|", "\\verb!a!"),
            ("\n\n", "\n\n\n"),
            ("\\emph {x}", "\\emph{x}"), ("$x$", "$x$"), ("\\%", "\\%"), ("a%x\nb", "ab"), ("#1", "#1"),
            ("\\begin{code}{a}\n\n\\end{code}", "\\begin{code}{a}\n\\end{code}"),
        ):
            self.expands("\\ifsame{" + first + "}{" + second + "}{c}{d}", "c")
        for first, second in (
            ("a", ""), ("a", "A"), ("\\ a", "a"), ("ab", "a b"), ("a", "\\emph"), ("\\emph", "\\strong"),
            ("\\verb|a|", "\\verb|b|"), ("\\verb|a|", "$a$"), ("{a}", "a"), (" ", "\n\n"), ("a %\n\nb", "a b"),
            ("#1", "#2"),
            ("\\begin{code}{a}\nx\n\\end{code}", "\\begin{code}{}\nx\n\\end{code}"), ("!", "\\!"),
            ("\\begin{code}{a}\nx\n\\end{code}", "\\begin{formula}{a}\nx\n\\end{formula}"), ("a~", "a"), ("\n\na", "a"),
        ):
            self.expands("\\ifsame{" + first + "}{" + second + "}{c}{d}", "d")

    def test_nothing_is_expanded_before(self):
        self.expands("\\newcommand\\a{x}\\ifsame{\\a}{x}{c}{\\a}", "x")
        self.expands("\\newcommand\\a{x}\\newcommand\\b{x}\\ifsame{\\a}{\\b}{c}{d}", "d")

    def test_what_is_not_chosen_is_left_out(self):
        self.expands("\\ifempty{}{a}{\\unknown}", "a")
        self.expands("\\newcommand\\a[1]{\\ifempty{#1}{none}{<#1>}}\\a{}\\a{x}", "none<x>")
        self.fails_in_expansion("\\ifempty{x}{a}{#1}", 7, 15)

    def test_errors(self):
        self.fails_in_expansion("x\\ifempty{}{}", 4, 1)
        self.fails_in_expansion("x\\ifsame{}{}{}", 4, 1)
        self.fails_in_expansion("x\\ifsame{}{}{a}{", 1, 15)


class Bounds(Case):
    def test_200_expansions(self):
        self.expands("\\newcommand\\a{}" + "\\a" * 200, "")
        self.fails_in_expansion("\\newcommand\\a{}" + "\\a" * 201, 6, 415)
        self.fails_in_expansion("\\newcommand\\a{\\a}\\a", 6, 14)
        self.fails_in_expansion("\\newcommand\\a{x\\a}\\a", 6, 15)

    def test_what_counts_as_an_expansion(self):
        head = "\\newcommand\\a{}"
        self.expands(head + "\\a" * 199 + "\\ifempty{}{}{}", "")
        self.fails_in_expansion(head + "\\a" * 200 + "\\ifempty{}{}{}", 6, 415)
        self.fails_in_expansion(head + "\\a" * 200 + "\\ifsame{}{}{}{}", 6, 415)
        self.expands(head + "\\a" * 200 + "\\begin{quote}\\end{quote}\\newcounter{c}\\arabic{c}",
                     "\\begin {quote}\\end {quote}0")
        head = "\\newenvironment{e}{}{}\\newcommand\\a{}"
        self.expands(head + "\\a" * 198 + "\\begin{e}\\end{e}", "")
        self.fails_in_expansion(head + "\\a" * 199 + "\\begin{e}\\end{e}", 6, 444)
        self.fails_in_expansion(head + "\\a" * 200 + "\\begin{e}\\end{e}", 6, 437)

    def test_3000_tokens(self):
        head = "\\newcommand\\a[1]{" + "#1" * 100 + "}"
        self.expands(head + "\\a{" + "x" * 30 + "}", "x" * 3000)
        self.fails_in_expansion(head + "\\a{" + "x" * 30 + "}y", 6, 218)
        self.fails_in_expansion(head + "\\a{" + "x" * 31 + "}", 6, 218)
        self.expands(head + "y\\a{" + "x" * 29 + "}" + "z" * 100, "y" + "x" * 2900 + "z" * 100)
        self.fails_in_expansion(head + "y\\a{" + "x" * 29 + "}" + "z" * 101, 6, 219)
        self.expands("\\ifempty{}{" + "x" * 500 + "}{}", "x" * 500)

    def test_only_the_rest_of_the_input_counts(self):
        head = "\\newcommand\\a[1]{" + "#1" * 100 + "}\\newcommand\\b{\\a{" + "x" * 20 + "}}"
        self.expands(head + "yyy\\b yy\\b", "yyy" + "x" * 2000 + "yy" + "x" * 2000)

    def test_marks_are_not_counted(self):
        head = "\\newenvironment{e}[1]{" + "#1" * 100 + "}{}\\begin{e}{"
        # The two tokens of the end are counted, too.
        self.expands(head + "x" * 29 + "}" + "y" * 98 + "\\end e", "x" * 2900 + "y" * 98)
        self.fails_in_expansion(head + "x" * 29 + "}" + "y" * 99 + "\\end e", 6, len(head) - 10)
        # A mark that lies in the rest of the input isn't counted, either.
        head = "\\newcommand\\a[1]{" + "#1" * 100 + "}\\newenvironment{f}{\\a{" + "x" * 29 + "}}{}\\begin f"
        self.expands(head + "y" * 98 + "\\end f", "x" * 2900 + "y" * 98)
        self.fails_in_expansion(head + "y" * 99 + "\\end f", 6, head.index("\\a{xx"))

    def test_as_many_groups_as_600_bytes_allow(self):
        self.expands("{" * 300 + "}" * 300, "{" * 300 + "}" * 300)
        self.fails_in_expansion("{" * 600, 1, 599)
        self.fails_in_expansion("\\newcommand\\a{" + "{" * 586, 1, 13)


class AgainTheSame(Case):
    def test_what_was_expanded_stays_when_it_is_expanded_again(self):
        for text in (
            "\\newcommand\\a[1][d]{\\emph{#1}}\\a\\a[x] \\begin{ quote }{\\a}\\end{quote}",
            "\\newenvironment{e}[1]{\\begin{note}{#1}}{\\end{note}}\\begin{e}{n}\\verb|!|$x$\\\\\\end{e}~ %\n y",
            "\\newcounter{c}\\setcounter{c}{12}\\roman{c}\\arabic{c}\\alph{c}\n\n\\ifempty{}{\\rule}{}",
        ):
            done = expanded(scanned([ord(sign) for sign in text])).done
            again = expanded(done).done
            self.assertEqual([(token.kind, token.position, token.value) for token in again],
                             [(token.kind, token.position, token.value) for token in done])
            answer = self.ask(markup.expand, text)
            for name in "newcommand", "newenvironment", "newcounter", "setcounter", "if", "\\a", "roman":
                self.assertNotIn(name, shown(answer))
            self.assertEqual(shown(markup.expand(answer[1:])).split(), shown(answer).split())


class Errors(Case):
    def test_wrong_texts(self):
        self.assertEqual(self.ask(markup.expand, "$"), [-20])
        self.assertEqual(self.ask(markup.expand, "\\a"), [-20])
        self.assertEqual(self.ask(markup.expand, data("\\a") + [0xff]), [-24])

    def test_tokens_are_checked_completely_before_the_expansion(self):
        self.checks("}\\a#1$", 1, 5)
        self.checks("}\\a$", 1, 3)
        self.checks("\\newcommand\\a{\\b}\\a&", 3, 14)

    def test_nothing_is_kept_between_calls(self):
        self.expands("\\newcommand\\a{x}\\newcounter{c}\\a", "x")
        self.fails_in_expansion("\\a", 3, 0)
        self.fails_in_expansion("\\arabic{c}", 8, 0)
        self.expands("\\newcommand\\a{x}\\newcounter{c}\\a", "x")


if __name__ == "__main__":
    unittest.main()
