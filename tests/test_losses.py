"""Operation losses: the kinds of what the language can't express, in the order of the notation."""

import unittest

from helper import Case
from macromarkup import markup

SIGNS = "|!+/\\\"':;,.?=*-@^_<>()"
END_CODE = "\\\\end{code}"
END_FORMULA = "\\\\end{formula}"


class Kinds(Case):
    def test_example_of_the_document(self):
        self.assertEqual(self.ask(markup.losses, '(para (math "") (link "\\n" "x"))'), [2, 2, 3])

    def test_none(self):
        self.loses("")
        self.loses('(para "\\\\end{code}" (code "$") (math "\\n") (link "a b" "c"))\n(code "" "$\\t\\n")')

    def test_codes_within_lines(self):
        self.loses('(para (code "\\n"))', 1)
        self.loses('(para (code "a\\nb"))', 1)
        self.loses('(para (code "' + SIGNS + '"))', 1)
        self.loses('(para (code "a' + SIGNS[::-1].replace('"\\', '\\"') + 'b"))', 1)
        self.loses('(para (code "' + SIGNS + '\\n' + SIGNS + '"))', 1)
        self.loses('(para (code ""))')
        self.loses('(para (code "\\t\\u{d}\\u{b}\\u{85} "))')
        for sign in SIGNS.replace('\\"', ""):
            self.loses('(para (code "' + SIGNS.replace(sign, "") + '"))')
        self.loses('(para (code "' + SIGNS.replace('\\"', "") + '{}#$&~`"))')

    def test_math(self):
        self.loses('(para (math ""))', 2)
        self.loses('(para (math "$"))', 2)
        self.loses('(para (math "a$b$"))', 2)
        self.loses('(para (math "\\\\$"))', 2)
        self.loses('(para (math " "))')
        self.loses('(para (math "\\n\\t\\\\"))')

    def test_targets(self):
        for escape in "\\t", "\\n", "\\u{d}", "\\u{00000a}", "a\\tb", " \\n":
            self.loses('(para (link "' + escape + '" "x"))', 3)
            self.loses('(para (image "' + escape + '"))', 3)
            self.loses('(figure "" "' + escape + '")', 3)
        for target in "", " ", "\\u{b}", "\\u{c}", "\\u{0}", "\\u{85}", "\\u{2028}", "$", "\\\\n", "\\\\end{code}":
            self.loses('(para (link "' + target + '" "x") (image "' + target + '"))(figure "" "' + target + '" "x")')

    def test_codes(self):
        for text in END_CODE, "a\\n" + END_CODE, "\\n" + END_CODE + "\\n", END_CODE + "x", "\\n\\n" + END_CODE + " ":
            self.loses('(code "" "' + text + '")', 4)
            self.loses('(code "x" "' + text + '\\n' + text + '")', 4)
            self.loses('(formula "" "' + text + '")')
        for text in "a" + END_CODE, " " + END_CODE, "\\u{d}" + END_CODE, "\\\\end {code}", "\\\\end{code", END_FORMULA:
            self.loses('(code "" "' + text + '")')
        self.loses('(para (code "' + END_CODE + '") "' + END_CODE + '")')

    def test_formulas(self):
        for text in END_FORMULA, "a\\n" + END_FORMULA, "\\n" + END_FORMULA + "\\n", END_FORMULA + "x":
            self.loses('(formula "" "' + text + '")', 5)
            self.loses('(formula "x" "' + text + '\\n' + text + '")', 5)
            self.loses('(code "" "' + text + '")')
        for text in "a" + END_FORMULA, "\\t" + END_FORMULA, "\\\\end{formula", END_CODE, "$", "":
            self.loses('(formula "" "' + text + '")')

    def test_several(self):
        self.loses('(para (code "\\n") (math "") (link "\\n" "a"))(code "" "' + END_CODE + '")'
                   '(formula "" "' + END_FORMULA + '")', 1, 2, 3, 4, 5)
        self.loses('(formula "" "' + END_FORMULA + '")(code "" "' + END_CODE + '")'
                   '(para (link "\\n" "a") (math "") (code "\\n"))', 5, 4, 3, 2, 1)
        self.loses('(para ' + '(math "")' * 60 + ')', *[2] * 60)
        self.loses('(para "a" (math "$") (math "$"))(para (math "$"))', 2, 2, 2)


class Places(Case):
    def test_each_list_of_inline_elements(self):
        loss = '(math "")'
        self.loses('(heading 1 "" ' + loss + ")", 2)
        self.loses('(figure "" "" ' + loss + ")", 2)
        self.loses("(terms (term (" + loss + ")))", 2)
        self.loses('(table "" (caption ' + loss + ") (align left) (row (cell)))", 2)
        self.loses('(table "" (caption) (align left) (row (cell ' + loss + ")))", 2)
        for name in "emph", "strong", "strike", "super", "sub", "caps", 'link ""', 'image ""', 'span (class "x")':
            self.loses("(para (" + name + " " + loss + "))", 2)

    def test_each_list_of_blocks(self):
        loss = '(code "" "' + END_CODE + '")'
        for front, back in ("(quote ", ")"), ("(bullets (item ", "))"), ("(numbers 1 (item) (item ", "))"), \
                ("(terms (term () ", "))"), ("(group (class) ", ")"), ('(group (class "x") ', ")"), ('(note "x" ', ")"):
            self.loses(front + loss + back, 4)
            self.loses(front + loss + "(rule)" + loss + back + loss, 4, 4, 4)

    def test_the_order_of_the_notation(self):
        self.loses('(figure "" "\\n" (math "") (link "\\n" (code "\\n")))', 3, 2, 3, 1)
        self.loses('(para (link "\\n" (math "") (image "\\t" (code "\\n")) (math "")) (code "\\n"))', 3, 2, 3, 1, 2, 1)
        self.loses('(terms (term ((math "")) (code "" "' + END_CODE + '")) (term ((code "\\n")) (para (math ""))))',
                   2, 4, 1, 2)
        self.loses('(table "" (caption (math "")) (align left left) (row (cell (code "\\n")) (cell (image "\\n")))'
                   '(row (cell (math "")) (cell (code "\\n"))))', 2, 1, 3, 2, 1)
        self.loses('(quote (para (math "")) (bullets (item (code "" "' + END_CODE + '")) (item (para (code "\\n")))) '
                   '(para (math "")))', 2, 4, 1, 2)


class NormalForm(Case):
    """Only the elements of the normal form are losses."""

    def test_elements_that_are_left_out(self):
        self.loses('(para (link "\\n"))')
        self.loses('(para (link "\\n" (emph)) "a")')
        self.loses('(para (link "\\n" " ") "a")')
        self.loses('(para (link "\\n" (break)) "a")')
        self.loses('(para (link "a" (link "\\n" "x")))')
        self.loses('(para (link "\\n" (link "a" "x")))', 3)
        self.loses('(para "a" (link "\\n" " ") "b")')

    def test_elements_that_become_one(self):
        self.loses('(para (link "\\n" "a") (link "\\n" "b"))', 3)
        self.loses('(para (link "\\n" "a") " " (link "\\n" "b"))', 3)
        self.loses('(para (link "\\n" "a") "x" (link "\\n" "b"))', 3, 3)
        self.loses('(para (link "\\n" "a" (emph "b") "c") (link "\\t" "b"))', 3, 3)

    def test_elements_that_stay(self):
        self.loses('(para (link "\\n" (image "")))', 3)
        self.loses('(para (image "\\n") (image "\\n"))', 3, 3)
        self.loses('(para (link "a" (image "\\n" (link "\\n" "b"))))', 3, 3)
        self.loses('(figure "" "\\n")', 3)


class Errors(Case):
    def test_no_notation(self):
        self.assertEqual(self.ask(markup.losses, '(para (math ""'), [-20])
        self.assertEqual(self.ask(markup.losses, '(para (math ""))"a"'), [-20])
        self.assertEqual(self.ask(markup.losses, '(para (math "")) a'), [-20])

    def test_nothing_is_kept_between_calls(self):
        self.loses('(para (math ""))', 2)
        self.loses("")
        self.loses('(para (math ""))', 2)


if __name__ == "__main__":
    unittest.main()
