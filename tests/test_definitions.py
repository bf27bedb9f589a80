"""Operations macros and counters: what is defined at the end of the expansion, and their errors."""

import unittest

from helper import Case
from macromarkup import markup

LETTERS = "abcdefghijklmnopqrstuvwxyzABCDEFGHIJKLMNOPQRSTUVWXYZ"
LABEL_SIGNS = LETTERS + "0123456789-_.:"


class Macros(Case):
    def test_the_answer_is_the_length_and_the_bytes(self):
        text = "\\newcommand\\a{}"
        self.assertEqual(self.ask(markup.macros, text), [15] + list(b'(macro "a" 0 0)'))
        text += "\\newenvironment{b}{}{}"
        self.assertEqual(self.ask(markup.macros, text), [35] + list(b'(macro "a" 0 0)\n(environment "b" 0)'))

    def test_none(self):
        for text in "", "a b", "\\section{x}\n\n\\begin{quote}y\\end{quote}", "\\newcounter{a}", "{\\newcommand\\a{}}":
            self.assertEqual(self.ask(markup.macros, text), [0], text)

    def test_several_macros(self):
        self.defines("\\newcommand{\\b}{x}\\newcommand\\a{y}\\newcommand{\\c}[1]{#1}",
                     '(macro "b" 0 0)', '(macro "a" 0 0)', '(macro "c" 1 0)')
        self.defines("\\newcommand\\a[2][x]{#2#1}\\newcommand\\b[2]{}", '(macro "a" 2 1)', '(macro "b" 2 0)')

    def test_numbers_of_arguments(self):
        for count in range(10):
            self.defines("\\newcommand\\a[" + str(count) + "]{}", f'(macro "a" {count} 0)')
            self.defines("\\newcommand\\a[00000" + str(count) + "]{}", f'(macro "a" {count} 0)')
            self.defines("\\newenvironment{a}[ " + str(count) + " ]{}{}", f'(environment "a" {count})')
            if count:
                self.defines("\\newcommand\\a[" + str(count) + "][d]{}", f'(macro "a" {count} 1)')
        self.fails_in_expansion("\\newcommand\\a[10]{}", 7, 0)
        self.fails_in_expansion("\\newcommand\\a[0][]{}", 7, 0)
        self.fails_in_expansion("\\newenvironment{a}[10]{}{}", 7, 0)

    def test_an_empty_default_is_a_default(self):
        self.defines("\\newcommand\\a[1][]{}", '(macro "a" 1 1)')
        self.defines("\\newcommand\\a[1] [{]}] {}", '(macro "a" 1 1)')
        self.defines("\\newcommand\\a{[1]}[2]", '(macro "a" 0 0)')

    def test_several_environments(self):
        self.defines("\\newenvironment{b}{}{}\\newenvironment{a}[2]{#1#2}{}\\newenvironment{3}[1]{}{}",
                     '(environment "b" 0)', '(environment "a" 2)', '(environment "3" 1)')

    def test_macros_come_before_environments(self):
        self.defines("\\newenvironment{e}[3]{}{}\\newcommand\\z{}\\newenvironment{d}{}{}\\newcommand\\a[1][x]{}",
                     '(macro "z" 0 0)', '(macro "a" 1 1)', '(environment "e" 3)', '(environment "d" 0)')
        self.defines("\\newenvironment{a}{}{}\\newcommand\\a[1]{}", '(macro "a" 1 0)', '(environment "a" 0)')

    def test_a_macro_has_the_place_of_its_latest_definition(self):
        base = "\\newcommand\\a{}\\newcommand\\b[1]{}\\newcommand\\c{}"
        self.defines(base + "\\renewcommand\\a[2][x]{#1}",
                     '(macro "b" 1 0)', '(macro "c" 0 0)', '(macro "a" 2 1)')
        self.defines(base + "\\renewcommand\\b{}\\renewcommand\\a{}",
                     '(macro "c" 0 0)', '(macro "b" 0 0)', '(macro "a" 0 0)')
        self.defines(base + "\\renewcommand\\c[9]{#9}", '(macro "a" 0 0)', '(macro "b" 1 0)', '(macro "c" 9 0)')
        self.defines("\\newcommand\\a[1][x]{}\\newcommand\\b{}\\renewcommand\\a[1]{}",
                     '(macro "b" 0 0)', '(macro "a" 1 0)')

    def test_definitions_in_groups_and_environments_do_not_show(self):
        self.defines("{\\newcommand\\a{}\\newenvironment{x}{}{}}\\newcommand\\b{}", '(macro "b" 0 0)')
        self.defines("\\begin{quote}\\newcommand\\a{}\\newenvironment{x}{}{}\\end{quote}")
        self.defines("\\emph{\\newcommand\\a{}}{{\\newcommand\\a{}}\\newcommand\\a{}}\\newcommand\\a[3]{}",
                     '(macro "a" 3 0)')
        self.defines("\\newenvironment{e}{}{}\\begin{e}\\newcommand\\a{}\\newenvironment{f}{}{}\\end{e}",
                     '(environment "e" 0)')

    def test_a_redefinition_in_a_group_does_not_show(self):
        base = "\\newcommand\\a[1][x]{}\\newcommand\\b{}"
        for text in "{%}", "\\begin{quote}%\\end{quote}", "\\emph{{%}}":
            self.defines(base + text.replace("%", "\\renewcommand\\a[2]{}"), '(macro "a" 1 1)', '(macro "b" 0 0)')

    def test_definitions_of_a_macro_body(self):
        self.defines("\\newcommand\\make[1]{\\newcommand#1[2][x]{y}}\\make\\a\\make{\\b}",
                     '(macro "make" 1 0)', '(macro "a" 2 1)', '(macro "b" 2 1)')
        self.defines("\\newcommand\\make{\\newenvironment{e}[4]{}{}}{\\make}\\make",
                     '(macro "make" 0 0)', '(environment "e" 4)')
        self.defines("\\newcommand\\a{\\renewcommand\\a[1]{}}\\newcommand\\b{}\\a",
                     '(macro "b" 0 0)', '(macro "a" 1 0)')
        self.defines("\\ifempty{}{\\newcommand\\a{}}{\\newcommand\\b{}}", '(macro "a" 0 0)')

    def test_definitions_of_the_first_and_the_last_part_of_an_environment(self):
        # The scope of the environment begins behind the first part and ends before the last one.
        self.defines("\\newenvironment{e}{\\newcommand\\a{}}{\\newcommand\\b{}}\\begin{e}\\newcommand\\c{}\\end{e}",
                     '(macro "a" 0 0)', '(macro "b" 0 0)', '(environment "e" 0)')
        self.defines("\\newenvironment{e}{\\begin{quote}\\newcommand\\a{}}{\\end{quote}}\\begin{e}\\end{e}",
                     '(environment "e" 0)')

    def test_names(self):
        for name in "a", "Z", "ab" * 20, LETTERS, "Verb", "Begin":
            self.defines("\\newcommand\\" + name + "{}", f'(macro "{name}" 0 0)')
            self.defines("\\newcommand{\\" + name + " }{}", f'(macro "{name}" 0 0)')
        for name in "a", "9", "-", ".", "_", ":", "x" * 40, LABEL_SIGNS[:40], LABEL_SIGNS[-40:], "Quote", "verb":
            self.defines("\\newenvironment{" + name + "}{}{}", f'(environment "{name}" 0)')
        self.defines("\\newenvironment{ \\- a}{}{}\\newenvironment{ b\\ }{}{}".replace("- a", "-a"),
                     '(environment "-a" 0)', '(environment "b" 0)')
        self.fails_in_expansion("\\newenvironment{" + "x" * 41 + "}{}{}", 5, 0)

    def test_as_many_as_600_bytes_allow(self):
        names = [first + second for first in LETTERS for second in LETTERS][:37]
        text = "".join(["\\newcommand\\" + name + "{}" for name in names])
        self.defines(text + " " * (600 - len(text)), *[f'(macro "{name}" 0 0)' for name in names])


class Counters(Case):
    def test_the_answer_is_the_length_and_the_bytes(self):
        self.assertEqual(self.ask(markup.counters, "\\newcounter{a}"), [15] + list(b'(counter "a" 0)'))
        text = "\\newcounter{a}\\newcounter{b}\\stepcounter{a}"
        self.assertEqual(self.ask(markup.counters, text), [31] + list(b'(counter "a" 1)\n(counter "b" 0)'))

    def test_none(self):
        for text in "", "a b", "\\section{x}", "\\newcommand\\a{\\newcounter{x}}", "\\newenvironment{e}{}{}":
            self.assertEqual(self.ask(markup.counters, text), [0], text)

    def test_the_order_is_that_of_the_definitions(self):
        self.counts("\\newcounter{b}\\newcounter{a}\\newcounter{c}\\setcounter{b}{7}\\stepcounter{a}\\setcounter{b}{4}",
                    '(counter "b" 4)', '(counter "a" 1)', '(counter "c" 0)')

    def test_values(self):
        for number, value in ("0", 0), ("000000", 0), ("7", 7), ("0010", 10), ("999999", 999999), (" 12 ", 12):
            self.counts("\\newcounter{a}\\setcounter{a}{" + number + "}", f'(counter "a" {value})')
        self.counts("\\newcounter{a}\\setcounter a5\\stepcounter a\\stepcounter a", '(counter "a" 7)')
        self.fails_in_expansion("\\newcounter{a}\\setcounter{a}{1000000}", 5, 14)

    def test_more_than_six_digits(self):
        text = "\\newcounter{a}\\setcounter{a}{999999}"
        self.counts(text, '(counter "a" 999999)')
        self.counts(text + "\\stepcounter{a}", '(counter "a" 1000000)')
        self.counts(text + "\\stepcounter{a}" * 37, '(counter "a" 1000036)')
        self.counts(text + "\\newcommand\\s{\\stepcounter{a}}" + "\\s" * 150, '(counter "a" 1000149)')

    def test_counters_in_groups_and_environments_show(self):
        self.counts("{\\newcounter{a}}\\begin{quote}\\newcounter{b}\\stepcounter{a}\\end{quote}",
                    '(counter "a" 1)', '(counter "b" 0)')
        self.counts("\\newcounter{a}{\\setcounter{a}{3}{\\stepcounter{a}}}\\emph{\\stepcounter{a}}", '(counter "a" 5)')

    def test_counters_of_macros_and_environments(self):
        self.counts("\\newcommand\\n[1]{\\newcounter{#1}\\stepcounter{#1}}\\n{x}{\\n{y}}",
                    '(counter "x" 1)', '(counter "y" 1)')
        self.counts("\\newenvironment{e}{\\newcounter{a}}{\\newcounter{b}\\setcounter{a}{9}}\\begin{e}\\end{e}",
                    '(counter "a" 9)', '(counter "b" 0)')
        self.counts("\\newcounter{a}\\newenvironment{e}{\\stepcounter{a}}{}\\begin{e}\\end{e}\\begin{e}\\end{e}",
                    '(counter "a" 2)')
        self.counts("\\ifempty{}{\\newcounter{a}}{\\newcounter{b}}", '(counter "a" 0)')

    def test_showing_a_counter_does_not_change_it(self):
        self.counts("\\newcounter{a}\\setcounter{a}{3}\\arabic{a}\\roman{a}\\alph{a}", '(counter "a" 3)')

    def test_labels(self):
        for label in "a", "Z", "0", "-", "_", ".", ":", "x" * 40, LABEL_SIGNS[:40], LABEL_SIGNS[-40:]:
            self.counts("\\newcounter{" + label + "}", f'(counter "{label}" 0)')
        for sign in LABEL_SIGNS:
            self.counts("\\newcounter{ a" + sign + "\\ }", f'(counter "a{sign}" 0)')
        self.counts("\\newcounter{\\-\\.}", '(counter "-." 0)')
        self.fails_in_expansion("\\newcounter{" + "x" * 41 + "}", 5, 0)
        self.fails_in_expansion("\\newcounter{}", 5, 0)
        self.fails_in_expansion("\\newcounter{a b}", 5, 0)

    def test_labels_are_different_if_a_sign_is(self):
        self.counts("\\newcounter{a}\\newcounter{A}\\newcounter{a.}\\newcounter{01}\\newcounter{1}\\stepcounter{1}",
                    '(counter "a" 0)', '(counter "A" 0)', '(counter "a." 0)', '(counter "01" 0)', '(counter "1" 1)')

    def test_counters_and_macros_are_apart(self):
        text = "\\newcounter{a}\\newcommand\\a{}\\newenvironment{a}{}{}\\stepcounter{a}"
        self.counts(text, '(counter "a" 1)')
        self.defines(text, '(macro "a" 0 0)', '(environment "a" 0)')


class Errors(Case):
    def test_bytes_that_are_no_text(self):
        for wrong in [128], [97, 255], [192, 128], [237, 160, 128], [244, 144, 128, 128], [226, 130], [36, 255]:
            for head in [], list(b"\\newcommand\\a{}\\newcounter{a}"), list(b"}"):
                self.refuses_all(head + wrong, -24)

    def test_errors_of_the_tokens(self):
        base = "\\newcommand\\a{}\\newcounter{a}"
        for wrong in "$", "$$", "#", "#0", "\\", "\\\u20ac", "\\verb", "\\verb|", "\\begin{code}{}\n":
            self.refuses_all(base + wrong, -20)

    def test_errors_of_the_expansion(self):
        base = "\\newcommand\\a{}\\newcounter{a}\\newenvironment{e}{}{}"
        for wrong in ("{", "}", "#1", "\\b", "\\newcounter", "\\setcounter{a}{x}", "\\newcommand\\a{}",
                      "\\newcounter{a}",
                      "\\renewcommand\\b{}", "\\stepcounter{b}", "\\begin{e}", "\\end{e}", "\\begin{f}", "\\roman{a}",
                      "\\newenvironment{e}{}{}", "\\newenvironment{quote}{}{}", "\\newcommand\\emph{}",
                      "\\renewcommand\\a{\\a}\\a"):
            self.refuses_all(base + wrong, -20)

    def test_errors_of_the_tree_are_none(self):
        for wrong in ("&", "\\item", "\\emph", "\\heading{9}{}", "\\begin{itemize}\\end{itemize}",
                      "\\begin{code}\\end{code}"):
            text = "\\newcommand\\a{}\\newcounter{a}" + wrong
            self.assertIn(markup.check(list(text.encode()))[0], range(1, 10), text)
            self.defines(text, '(macro "a" 0 0)')
            self.counts(text, '(counter "a" 0)')

    def test_too_deep_documents_have_no_error(self):
        text = "\\newcommand\\a{}\\newcounter{a}" + "\\begin{quote}" * 17 + "x" + "\\end{quote}" * 17
        self.assertEqual(self.ask(markup.read, text), [-28])
        self.defines(text, '(macro "a" 0 0)')
        self.counts(text, '(counter "a" 0)')

    def test_lists_of_600_bytes(self):
        self.defines("\\newcommand\\a{" + "x" * 585 + "}", '(macro "a" 0 0)')
        self.counts("\\newcounter{a}" + "\u20ac" * 195 + "z", '(counter "a" 0)')
        self.defines("\\newcommand\\" + "a" * 586 + "{}", '(macro "' + "a" * 586 + '" 0 0)')
        self.refuses_all("{" * 600, -20)
        self.refuses_all([128] * 600, -24)
        self.refuses_all([0] * 599 + [36], -20)

    def test_nothing_is_kept_between_calls(self):
        text = "\\newcommand\\a{}\\newcounter{a}"
        self.defines(text, '(macro "a" 0 0)')
        self.counts(text, '(counter "a" 0)')
        self.assertEqual(self.ask(markup.macros, ""), [0])
        self.assertEqual(self.ask(markup.counters, ""), [0])
        self.refuses_all(text + text, -20)
        self.defines(text, '(macro "a" 0 0)')


if __name__ == "__main__":
    unittest.main()
