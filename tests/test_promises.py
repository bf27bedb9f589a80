"""What the document promises over the whole program: its requirements, its examples and the order of the errors."""

import unittest

from helper import Case, data, shown
from macromarkup import markup
from macromarkup.expansion import expanded
from macromarkup.lexis import COMMAND, PARAMETER
from macromarkup.scan import scanned
from test_model import Numbers

OF_TEXTS = (
    markup.check, markup.read, markup.tokens, markup.expand, markup.macros, markup.counters, markup.format_of,
    markup.plain_text,
)
OF_TREES = (markup.write, markup.losses)
LOST = "\\verb#|!+/\"':;,.?=*-@^_<>()#"
DEEP = "\\begin{note}{n}" * 17 + "\\end{note}" * 17

# What made texts consist of: what stands by itself, and what stands around other things.
ALONE = (
    "a", "b", "c d", " ", " ", "\n", "\n\n", "\\\\", "\\newline ", "$m$", "\\verb|v|", "\\noteref{n}", "\\ref{r}",
    "\\cite{k, l}", "~", "\\ ", "\\{", "\\[", "\\%", "%x\n", "\\rule ", "\\section{h}", "\\subsection[i]{ j }", "[", "]",
    "\\begin{code}{p}\nx\n\\end{code}", "\\begin{formula}{}\n\\end{formula}", "\\backslash ", "&", "\\item ", "\\f{a}",
    "\\f", "\\g x", "\\g[y]z", "\\arabic{c}", "\\roman c", "\\alph{c}", "\\stepcounter{c}", "\\newcounter{c}", "{}", "#1", "{",
    "\\emph{ a}", "\\emph{b }", "\\strong{c}", "\\emph", "\\begin e", "\\end e", LOST,
    "\\begin{quote}a\\end{quote}", "\\begin{itemize}\\item a\\end{itemize}", "\\begin{enumerate}[2]\\item\\end{enumerate}",
)
AROUND = (
    ("{", "}"), ("\\emph{", "}"), ("\\strong {", "}"), ("\\link{t u}{", "}"), ("\\image{t}{", "}"),
    ("\\span{x, y}{", "}"), ("\\span{}{", "}"), ("\\section{", "}"), ("\\heading[a]{2} {", "}"),
    ("\\begin{quote}", "\\end{quote}"), ("\\begin{itemize}\\item ", "\\end{itemize}"),
    ("\\begin{enumerate}\n\\item a\n\\item{} ", "\\end{enumerate}"), ("\\begin{description}\\term{t}", "\\end{description}"),
    ("\\begin{description}\\term{", "}\\end{description}"), ("\\begin{table}{t}{lr}{", "}a&b\\end{table}"),
    ("\\begin{table}{}{nc}{}", "&b\\\\\n\\end{table}"), ("\\begin{figure}{f}{t}", "\\end{figure}"),
    ("\\begin{group}{x}", "\\end{group}"), ("\\begin{group}{}", "\\end{group}"), ("\\begin{note}{n}", "\\end{note}"),
    ("\\newcommand\\f[1]{#1}\\f{", "}"), ("\\newcommand\\g[2][", "]{#1#2}\\g b"), ("\\renewcommand\\f[1]{\\emph{#1}", "}"),
    ("\\ifempty{", "}{a}{b}"), ("\\ifsame{a}{a}{", "}{b}"), ("\\newenvironment{e}{", "}{}\\begin e\\end e"),
    ("\\newenvironment{e}{\\begin{quote}}{", "\\end{quote}}\\begin e\\end e"),
)


def made(numbers, depth):
    """A text that is made by a row of numbers; many have no error."""
    text = ""
    for count in range(numbers.below(5)):
        if depth > 0 and numbers.below(2) == 0:
            front, back = numbers.one_of(AROUND)
            text += front + made(numbers, depth - 1) + back
        else:
            text += numbers.one_of(ALONE)
    return text


def made_texts(first, last):
    texts = [made(Numbers(seed), 4) for seed in range(first, last)]
    return [text for text in texts if len(data(text)) <= 600]


def told(tokens):
    return [(token.kind, token.position, token.value) for token in tokens]


class Examples(Case):
    def test_examples_of_the_document(self):
        self.assertEqual(self.ask(markup.check, "$a"), [1, 0])
        self.assertEqual(self.ask(markup.tokens, "\\a b\\\\ $x$"), [5, 0, 1, 3, 2, 4, 1, 6, 4, 7, 10])
        for tree, text in (
            ('(bullets (item (para "a%")) (item))', "\\begin{itemize}\n\\item a\\%\n\\item\n\\end{itemize}"),
            ('(table "t" (caption) (align left) (row (cell "a" (code "|"))))',
             "\\begin{table}{t}{l}{}\na\\verb!|! \\\\\n\\end{table}"),
        ):
            self.assertEqual(shown(self.ask(markup.write, tree)), text)
        self.assertEqual(self.ask(markup.losses, '(para (math "") (link "\\n" "x"))'), [2, 2, 3])
        self.assertEqual(shown(self.ask(markup.roman, 1994)), "mcmxciv")


class Requirements(Case):
    def test_round_trip_and_format(self):
        """Points 1 and 2: what was written is read as it was, and formatting it changes nothing."""
        asked, lossy = 0, 0
        for text in made_texts(0, 4000):
            notation = self.ask(markup.read, text)
            if notation[0] <= 0 or notation[0] > 600:
                continue
            lost = self.ask(markup.losses, notation[1:])
            form = self.ask(markup.format_of, text)
            self.assertEqual(self.ask(markup.write, notation[1:]), form, text)
            self.assertEqual(form == [-33], lost[0] > 0, text)
            if form == [-33]:
                lossy += 1
            elif form[0] <= 600:
                asked += 1
                self.assertEqual(self.ask(markup.read, form[1:]), notation, text)
                self.assertEqual(self.ask(markup.format_of, form[1:]), form, text)
                self.assertEqual(self.ask(markup.plain_text, form[1:]), self.ask(markup.plain_text, text), text)
                self.compares(text, form[1:], 1)
        self.assertGreater(asked, 500)
        self.assertGreater(lossy, 10)

    def test_expansion(self):
        """Point 3: the tokens that the expansion gives stay as they are, and nothing is defined by them."""
        asked = 0
        for text in made_texts(6000, 9000):
            if self.ask(markup.expand, text)[0] <= 0:
                continue
            done = expanded(scanned([ord(sign) for sign in text])).done
            again = expanded(done)
            self.assertEqual(told(again.done), told(done), text)
            self.assertEqual([again.counters, again.scopes[0].macros, again.scopes[0].environments], [{}, {}, {}], text)
            self.assertNotIn(PARAMETER, [token.kind for token in done], text)
            for token in done:
                if token.kind == COMMAND:
                    self.assertNotIn(token.value, (
                        "f", "g", "newcommand", "renewcommand", "newenvironment", "newcounter", "setcounter",
                        "stepcounter", "arabic", "roman", "alph", "ifempty", "ifsame",
                    ))
            asked += 1
        self.assertGreater(asked, 500)

    def test_expansion_ends(self):
        for text in (
            "\\newcommand\\a{\\a}\\a", "\\newcommand\\a{\\a\\a}\\a", "\\newcommand\\a[1]{\\a{#1#1}}\\a x",
            "\\newcommand\\a{\\ifempty{}{\\a}{}}\\a", "\\newenvironment{e}{\\begin{e}}{}\\begin{e}",
            "\\newcommand\\a{\\b}\\newcommand\\b{\\a}\\a",
        ):
            self.assertEqual(self.ask(markup.check, text)[0], 6, text)
            self.refuses_all(text, -20)
            self.refuses_document(text, -20)

    def test_scopes(self):
        """Point 4: what is defined in a group or an environment of the output isn't valid after it."""
        for front, back in (
            ("{", "}"), ("\\emph{", "}"), ("\\section{", "}"), ("\\begin{quote}", "\\end{quote}"),
            ("\\begin{itemize}\\item ", "\\end{itemize}"), ("\\begin{enumerate}\\item ", "\\end{enumerate}"),
            ("\\begin{description}\\term{", "}\\end{description}"), ("\\begin{description}\\term{}", "\\end{description}"),
            ("\\begin{table}{}{l}{", "}a\\end{table}"), ("\\begin{table}{}{l}{}", "\\end{table}"),
            ("\\begin{figure}{}{", "}\\end{figure}"), ("\\begin{figure}{}{}", "\\end{figure}"),
            ("\\begin{group}{}", "\\end{group}"), ("\\begin{note}{n}", "\\end{note}"),
        ):
            for define, use in (
                ("\\newcommand\\a{x}", "\\a"), ("\\newenvironment{e}{x}{}", "\\begin e\\end e"),
            ):
                self.checks(front + define + use + back, 0, 1)
                self.fails_in_expansion(front + define + use + back + use, 3, len(front + define + use + back))
                self.checks(front + define + use + back + define, 0, 1)
                self.assertEqual(self.ask(markup.macros, front + define + back), [0])
            text = "\\newcommand\\a{x}" + front + "\\renewcommand\\a{y}\\a" + back + "\\a"
            self.assertEqual(shown(self.ask(markup.expand, text))[-1], "x", text)
            self.assertIn("y", shown(self.ask(markup.expand, text)))

    def test_roman_numbers(self):
        """Point 5: different numbers are different."""
        self.assertEqual(len({tuple(markup.roman(value)) for value in range(1, 4000)}), 3999)


class Errors(Case):
    def test_the_order_in_each_operation(self):
        deep_and_lost = DEEP + LOST
        for text, answers in (
            (data(deep_and_lost + "&") + [0xff], [-24] * 8),
            (deep_and_lost + "}&$", [1, -20, -20, -20, -20, -20, -20, -20]),
            (deep_and_lost + "}&", [2, -20, None, -20, -20, -20, -20, -20]),
            (deep_and_lost + "&", [9, -20, None, None, None, None, -20, -20]),
            (deep_and_lost, [0, -28, None, None, None, None, -28, -28]),
            (LOST, [0, None, None, None, None, None, -33, None]),
            ("x", [0] + [None] * 7),
        ):
            for function, expected in zip(OF_TEXTS, answers):
                answer = self.ask(function, text)
                if expected is None:
                    self.assertGreaterEqual(answer[0], 0, (function, text))
                    self.assertGreater(len(answer), answer[0])
                elif expected < 0:
                    self.assertEqual(answer, [expected], (function, text))
                else:
                    self.assertEqual(answer[0], expected, (function, text))
                    self.assertEqual(len(answer), 2)

    def test_trees(self):
        lost = '(para (math ""))'
        for tree, answers in (
            (lost + "(", ([-20], [-20])), (list(lost.encode()) + [0xff], ([-20], [-20])), (lost, ([-33], [1, 2])),
            ('(para "xyz")', ([3, 120, 121, 122], [0])),
        ):
            for function, answer in zip(OF_TREES, answers):
                self.assertEqual(self.ask(function, tree), answer, tree)

    def test_errors_of_texts_that_are_made(self):
        """One error of a text shows in every operation that needs what has it."""
        kinds = {}
        for text in made_texts(10000, 12500):
            kind, number = self.ask(markup.check, text)
            kinds[kind] = True
            codes = [answer[0] for answer in (self.ask(function, text) for function in OF_TEXTS[1:])]
            read, tokens, expand, macros, counters, form, plain = [min(code, 0) for code in codes]
            self.assertEqual(plain, read, text)
            self.assertIn(form, (read, -33) if read == 0 else (read,), text)
            self.assertEqual(read == -20, kind > 0, text)
            self.assertTrue(macros == counters == expand, text)
            self.assertTrue(expand == -20 or tokens == 0, text)
            self.assertTrue(read == -20 or expand == 0, text)
        self.assertEqual(sorted(kinds), list(range(10)))


class Guarded(list):
    """A list that nobody may change, not for a while either."""

    def refused(self, *values):
        raise AssertionError("what was handed in is changed")

    append = clear = extend = insert = pop = remove = reverse = sort = refused
    __setitem__ = __delitem__ = __iadd__ = __imul__ = refused


class Calls(Case):
    TEXTS = (
        "", "a", "\\newcommand\\a{x}\\newcounter{c}\\a\\arabic c", "\\a", "\\stepcounter{c}", "\\begin{quote}a\\end{quote}",
        "\\newenvironment{e}{[}{]}\\begin e\\begin{note}{n}\\end{note}\\end e", "\\begin e\\end e", DEEP, LOST, "$", "{", "&",
        "\\begin{code}{p}\nx\n\\end{code}", "\\section[i]{\\emph{a \\link{t}{b}}\\image{u}{c}}", "\\cite{a,b}\\ref{c}",
        "\\begin{enumerate}[3]\\item a\\end{enumerate}\\begin{enumerate}[4]\\item\\end{enumerate}",
        "\\begin{table}{t}{lr}{c}a&b\\\\\\end{table}\\begin{figure}{f}{t}g\\end{figure}", [0xff],
    )
    TREES = (
        "", '(para "a")', '(para (math ""))', "(", '(bullets (item (para "b")))(bullets (item))',
        '(numbers 1 (item))(numbers 2 (item (rule)))', '(quote (para "a"))(quote (para "b"))', "(rule)", '(rule "")',
        '(heading 1 "" (emph "a " (emph "b")) " c")', '(group (class) (terms (term ("a") (note "n"))))',
    )

    def calls(self):
        """Each function with each thing that it takes."""
        calls = [(function, text) for text in self.TEXTS for function in OF_TEXTS]
        calls += [(function, tree) for tree in self.TREES for function in OF_TREES]
        calls += [(markup.is_same, first, second) for first in self.TEXTS for second in self.TEXTS]
        return calls + [(markup.roman, value) for value in (0, 1, 4, 1994, 3999, 4000, 4294967295)]

    def test_nothing_is_kept_between_calls(self):
        calls = self.calls()
        answers = [self.ask(*call) for call in calls]
        self.assertEqual([self.ask(*call) for call in reversed(calls)], answers[::-1])
        numbers = Numbers(1)
        for count in range(1000):
            at = numbers.below(len(calls))
            self.assertEqual(self.ask(*calls[at]), answers[at], calls[at])

    def test_an_answer_is_free_to_be_changed(self):
        for call in self.calls():
            answer = self.ask(*call)
            kept = list(answer)
            answer.append(1)
            answer[0] = 7
            self.assertEqual(self.ask(*call), kept, call)

    def test_what_is_handed_in_is_not_changed_for_a_while_either(self):
        for function, *handed in self.calls():
            given = [one if isinstance(one, int) else Guarded(one if isinstance(one, list) else data(one)) for one in handed]
            self.assertEqual(function(*given), self.ask(function, *handed), handed)

    def test_any_list_of_bytes_is_answered(self):
        numbers = Numbers(7)
        signs = data("\\\\\\{}{}[]$%&#~ \n\n\tab1(\")") + [0xc3, 0xa4]
        for count in range(300):
            length = numbers.one_of((3, 10, 30, 600))
            for given in (
                [numbers.below(256) for place in range(length)], [numbers.one_of(signs) for place in range(length)],
            ):
                for function in OF_TEXTS + OF_TREES:
                    self.assertGreaterEqual(self.ask(function, given)[0], -33, given)
                self.assertIn(self.ask(markup.is_same, given, given), ([1], [-20], [-24], [-28]), given)

    def test_any_number_is_answered(self):
        numbers = Numbers(3)
        for count in range(1000):
            value = numbers.below(numbers.one_of((8000, 4294967296)))
            self.assertEqual(self.ask(markup.roman, value) == [-22], not 1 <= value <= 3999, value)


if __name__ == "__main__":
    unittest.main()
