"""How the notation of a document is read by write and losses, and what is none."""

import unittest

from helper import Case, data
from macromarkup import markup

ELEMENTS = {
    "para": "",
    "heading": '1 ""',
    "code": '"" ""',
    "formula": '"" ""',
    "rule": "",
    "quote": "",
    "bullets": "(item)",
    "numbers": "1 (item)",
    "terms": "(term ())",
    "table": '"" (caption) (align left) (row (cell))',
    "figure": '"" ""',
    "group": "(class)",
    "note": '"a"',
}
INLINES = {
    "code": '"a"', "math": '"a"', "break": "", "noteref": '"a"', "ref": '"a"', "cite": '"a"', "emph": "", "strong": "",
    "strike": "", "super": "", "sub": "", "caps": "", "link": '"a"', "image": '"a"', "span": "(class)",
}


class NotationCase(Case):
    def accepts(self, tree):
        """The tree is the notation of a document."""
        self.assertGreaterEqual(self.ask(markup.losses, tree)[0], 0, tree)
        self.assertNotEqual(self.ask(markup.write, tree), [-20], tree)

    def same(self, tree, expected):
        """Both are the notations of the same document."""
        self.accepts(tree)
        self.assertEqual(self.ask(markup.write, tree), self.ask(markup.write, expected), tree)
        self.assertEqual(self.ask(markup.losses, tree), self.ask(markup.losses, expected), tree)


class BetweenExpressions(NotationCase):
    TREE = ["(", "heading", "1", '"a"', '"b"', "(", "emph", '"c"', ")", ")", "(", "rule", ")",
            "(", "terms", "(", "term", "(", ")", "(", "para", '"d"', ")", ")", ")"]
    PLAIN = '(heading 1 "a" "b" (emph "c")) (rule) (terms (term () (para "d")))'

    def test_white_space_and_comments_everywhere(self):
        for white in " ", "\t", "\n", "\r", " \t\r\n\n ", ";\n", "; a(\")\\\n", ";;\n;\n", "\n;\n ;\r;)\n\t":
            self.same(white + white.join(self.TREE) + white, self.PLAIN)

    def test_white_space_that_is_not_necessary(self):
        self.same('(heading 1"a""b"(emph"c"))(rule)(terms(term()(para"d")))', self.PLAIN)
        self.same('(table"a"(caption"b")(align left)(row(cell"c")))',
                  '(table "a" (caption "b") (align left) (row (cell "c")))')
        self.same('(group(class"a""b")(rule))', '(group (class "a" "b") (rule))')
        self.same('(numbers 7(item))', '(numbers 7 (item))')
        self.same('(para"a"(code"b")"c"(break)(cite"d""e"))', '(para "a" (code "b") "c" (break) (cite "d" "e"))')
        self.same('(table "a"(caption)(align;\nleft;x\nright)(row(cell)(cell)))',
                  '(table "a" (caption) (align left right) (row (cell) (cell)))')

    def test_comments(self):
        self.same(list(b'(para ;\xff\xc0\x80"(\n"a") ;\xed\xa0\x80'), '(para "a")')
        self.same('(para "a;b\\"; c") ; d', '(para "a;b\\"; c")')
        self.same("(rule);", "(rule)")
        self.same(";(rule)\n(rule);\r(rule)", "(rule)")
        self.same(";", "")
        self.same(" \t\r\n", "")
        self.refuses('(para ;"a")')
        self.refuses('(para "a" ;)\r')
        self.accepts('(para "a" ;)\n)')

    def test_other_signs(self):
        for sign in "\0\x01\x0b\x0c\x1f\x7f!#$%&'*+,-./:<=>?@ABZ[\\]^_`{|}~\u00a0\u00e4\u2003\ufeff":
            for tree in ("%", "% (rule)", "(rule) %", "(% rule)", "(rule %)", "(rule)%(rule)", '(para "a" % "b")',
                         "(rule%)"):
                self.refuses(tree.replace("%", sign))
        for byte in 128, 191, 192, 255:
            self.refuses(list(b"(rule)") + [byte])
            self.refuses([byte] + list(b"(rule)"))


class Strings(NotationCase):
    def test_escape_sequences(self):
        self.same('(para "\\u{61}\\u{0062}\\u{000063}")', '(para "abc")')
        self.writes('(para (code "\\"\\\\"))', '\\verb|"\\|')
        self.writes('(code "" "a\\nb\\tc\\u{d}d\\u{0}")', "\\begin{code}{}\na\nb\tc\rd\0\n\\end{code}")
        numbers = "7f 80 ff 100 7ff 800 d7ff e000 ffff 10000 10ffff".split()
        text = "\x7f\x80\xff\u0100\u07ff\u0800\ud7ff\ue000\uffff\U00010000\U0010ffff"
        escapes = "".join(["\\u{" + number + "}" for number in numbers])
        self.writes('(para "' + escapes + '")', text, '(para "' + text + '")')
        self.writes('(para "\\u{e4}\\u{00e4}x\\u{abcde}\\u{0f9}")', "\u00e4\u00e4x\U000abcde\u00f9",
                    '(para "\u00e4\u00e4x\U000abcde\u00f9")')

    def test_white_space_of_escape_sequences_is_white_space(self):
        self.same('(para "a\\u{20}\\n\\t\\u{d}\\u{00000a}b\\u{9}")', '(para "a b")')

    def test_wrong_escape_sequences(self):
        for sign in [chr(code) for code in range(32, 127) if chr(code) not in '"\\nt'] + ["\u00e4", "\u20ac", "\n"]:
            self.refuses('(para "a\\' + sign + 'b")')
            self.refuses('(para "\\' + sign + '")')
        for wrong in ("\\u", "\\u{", "\\u{}", "\\u{61", "\\u61}", "\\u{0000061}", "\\u{1000000}", "\\u{ 61}",
                      "\\u{61 }",
                      "\\u{6 1}", "\\u{g}", "\\u{A}", "\\u{aF}", "\\u{-1}", "\\u{+1}", "\\U{61}", "\\u(61)", "\\u{:}",
                      "\\u{/}", "\\u{`}", "\\u{\u0661}"):
            self.refuses('(para "' + wrong + '")')
            self.refuses('(para "' + wrong + ' a}")')
        for wrong in "d800", "dbff", "dc00", "dfff", "00d800", "110000", "ffffff", "d83d":
            self.refuses('(para "\\u{' + wrong + '}")')
        self.refuses('(para "\\u{d83d}\\u{de00}")')

    def test_characters_that_must_be_escaped(self):
        for code in range(32):
            self.refuses('(para "' + chr(code) + '")')
            self.refuses('(code "" "a' + chr(code) + 'b")')
        self.accepts('(para "\x7f ")')

    def test_strings_without_an_end(self):
        for wrong in '(para "a', '(para "a)', '(para "a\\")', '(para "', '(para "\\', '(para "a\\\\\\")', '"', '"\\':
            self.refuses(wrong)

    def test_bytes_that_are_no_characters(self):
        for wrong in ([128], [191], [192, 128], [193, 191], [194], [224, 128, 128], [226, 130], [237, 160, 128],
                      [240, 128, 128, 128], [244, 144, 128, 128], [245, 128, 128, 128], [254], [255], [195, 92, 110,
                      169]):
            self.refuses(list(b'(para "') + wrong + list(b'")'))
            self.refuses(list(b'(para "a') + wrong + list(b'b")'))
            self.refuses(list(b'(code "" "') + wrong + list(b'")'))
            self.refuses(list(b'(para "a")(note "') + wrong + list(b'")'))
        # The bytes of a character don't lie around an escape sequence.
        self.refuses(list(b'(para "\xc3\\u{a9}")'))
        self.refuses(list(b'(para "\xc3" "\xa9")'))
        self.refuses(list(b'(para "\\\xc3\xa9")'))


class NumbersAndSymbols(NotationCase):
    def test_integers(self):
        for number in "0", "1", "9", "10", "100000", "999999":
            self.accepts("(numbers " + number + " (item))")
        for number in ("00", "01", "000001", "0000000", "1000000", "9999999", "-1", "+1", "1.0", "1 0", "1a", "a",
                       '"1"',
                       "(1)", "\u0661", "", "0x1", "1_0", "12345678901234567890"):
            self.refuses("(numbers " + number + " (item))")

    def test_levels(self):
        for level in range(1, 7):
            self.accepts(f'(heading {level} "")')
        for level in "0", "7", "10", "01", "100000", "-1", '"1"', "a", "", "(1)":
            self.refuses("(heading " + level + ' "")')

    def test_symbols(self):
        for symbol in ("Rule", "rule-", "rule1", "rul", "rules", "-rule", "r", "rule-a", "rULE", "1rule", "rule_", "",
                       '"rule"', "1", "(rule)", "ru le", "document", "head", "text", "item", "term", "row", "cell",
                       "align",
                       "caption", "class", "list"):
            self.refuses("(" + symbol + ")")
            self.refuses("(rule) (" + symbol + ")")

    def test_expressions_that_are_no_blocks(self):
        for wrong in '"a"', "1", "rule", "para", "()", "(())", '("a")', "(1)", '(item)', "((rule))":
            self.refuses(wrong)
            self.refuses("(rule)" + wrong)
            self.refuses(wrong + "(rule)")
            self.refuses("(quote (rule) " + wrong + ")")
            self.refuses("(bullets (item " + wrong + "))")


class Labels(NotationCase):
    LABELS = ("a", "0", "-", "_", ".", ":", "A-z_0.9:", "x" * 40)
    WRONG = ("x" * 41, " ", "a b", " a", "a ", "a,b", "a\\n", "\u00e4", "a/b", "[a]", "a\u00a0", "#", "\\\\", "\\u{0}")
    PLACES = ('(note "?")', '(group (class "?"))', '(group (class "a" "?"))', '(para (ref "?"))',
              '(para (noteref "?"))',
              '(para (cite "?"))', '(para (cite "a" "?"))', '(para (span (class "?")))',
              '(para (span (class "?" "a")))')
    IDENTIFIERS = ('(heading 1 "?")', '(code "?" "")', '(formula "?" "")', '(figure "?" "")',
                   '(table "?" (caption) (align left) (row (cell)))')

    def test_labels(self):
        for place in self.PLACES + self.IDENTIFIERS:
            for label in self.LABELS:
                self.accepts(place.replace("?", label))
            for label in self.WRONG:
                self.refuses(place.replace("?", label))
            for wrong in "a", "1", '("a")', "()":
                self.refuses(place.replace('"?"', wrong))

    def test_identifiers_can_be_empty(self):
        for place in self.PLACES:
            self.refuses(place.replace("?", ""))
        for place in self.IDENTIFIERS:
            self.accepts(place.replace("?", ""))

    def test_escape_sequences_in_labels(self):
        self.same('(note "\\u{61}b")', '(note "ab")')


class Elements(NotationCase):
    def test_blocks(self):
        for kind, parts in ELEMENTS.items():
            self.accepts("(" + kind + " " + parts + ")")
            self.accepts("(quote (" + kind + " " + parts + "))")

    def test_inline_elements(self):
        for kind, parts in INLINES.items():
            self.accepts("(para (" + kind + " " + parts + "))")
            self.accepts('(figure "" "" (link "" (' + kind + " " + parts + ")))")

    def test_blocks_where_inline_elements_stand_and_the_other_way_round(self):
        for kind, parts in ELEMENTS.items():
            self.refuses("(para (" + kind + " " + parts + "))")
            self.refuses("(para (emph (" + kind + " " + parts + ")))")
            self.refuses("(terms (term ((" + kind + " " + parts + "))))")
        for kind, parts in INLINES.items():
            self.refuses("(" + kind + " " + parts + ")")
            self.refuses("(note \"a\" (" + kind + " " + parts + "))")

    def test_missing_parts(self):
        for wrong in ("(heading)", "(heading 1)", '(heading "")', "(code)", '(code "")', "(formula)", '(formula "")',
                      "(bullets)", "(numbers)", "(numbers 1)", "(numbers (item))", "(terms)", "(terms (term))",
                      '(terms (term "a"))', "(terms (term ()) (term))", "(figure)", '(figure "")', "(group)", "(note)",
                      "(group (rule))", "(note (rule))", '(table)', '(table "")', '(table "" (caption))',
                      '(table "" (caption) (align))', '(table "" (caption) (align left))',
                      '(table "" (caption) (align) (row))', '(table "" (align left) (row (cell)))',
                      '(table (caption) (align left) (row (cell)))', '(table "" (caption) (row (cell)))'):
            self.refuses(wrong)
        for wrong in "(code)", "(math)", "(noteref)", "(ref)", "(cite)", "(link)", "(image)", "(span)", "()":
            self.refuses("(para " + wrong + ")")
        self.refuses('(para (link (emph "a")))')
        self.refuses('(para (image (emph "a")))')
        self.refuses('(para (span "a"))')
        self.refuses('(para (span))')

    def test_too_many_parts(self):
        for wrong in ('(code "" "" "")', '(formula "" "" "")', "(rule (rule))", '(rule "")', "(rule 1)", "(rule rule)",
                      "(group (class) (class))", '(note "a" "b")',
                      '(table "" (caption) (align left) (row (cell)) (rule))',
                      '(table "" (caption) (caption) (align left) (row (cell)))', '(heading 1 "" 2)', "(quote ())",
                      '(bullets (item) (rule))', "(terms (term () ()))", '(code "" "" ())'):
            self.refuses(wrong)
        for wrong in ('(code "" "")', '(math "" "")', "(break ())", '(break "")', '(noteref "a" "b")', '(ref "a" "b")',
                      '(cite "a" (emph))', '(link "a" 1)', "(emph a)", "(span (class) (class))", "1", "a", '("a")'):
            self.refuses("(para " + wrong + ")")

    def test_lists(self):
        for wrong in "rule", '"a"', "1", "(rule)", "()", "(term ())", "(Item)", '(item "a")', "(item item)", "((item))":
            self.refuses("(bullets " + wrong + ")")
            self.refuses("(bullets (item) " + wrong + ")")
            self.refuses("(numbers 1 " + wrong + ")")
        for wrong in ("(item)", "(term)", "term", "()", '(term ("a") "b")', "(term (rule))", "(term () (emph))",
                      "(term 1)"):
            self.refuses("(terms " + wrong + ")")
            self.refuses("(terms (term ()) " + wrong + ")")
        self.accepts('(terms (term ("a" (break))) (term () (rule) (para)))')
        # The term is a list of inline elements, in which the first one may be an element.
        self.accepts('(terms (term ((emph "a"))))')
        self.refuses('(terms (term (emph "a")))')

    def test_rows_and_columns(self):
        front = '(table "" (caption) (align left right) '
        self.accepts(front + "(row (cell) (cell)) (row (cell) (cell)))")
        for rows in ("", "(row)", "(row (cell))", "(row (cell) (cell) (cell))", "(row (cell) (cell)) (row (cell))",
                     "(row (cell) (cell)) (row)", "(cell) (cell)", "(row (row (cell) (cell)))", "(row () ())",
                     '(row "a" "b")', "(row (cell) (rule))", "(rows (cell) (cell))", "row", "(row cell cell)"):
            self.refuses(front + rows + ")")
        for symbol in "none", "left", "center", "right":
            self.accepts('(table "" (caption) (align ' + symbol + ") (row (cell)))")
        for wrong in "l", '"left"', "Left", "1", "(left)", "left left", "", "centre", "middle", "align":
            self.refuses('(table "" (caption) (align ' + wrong + ") (row (cell)))")
        for wrong in '"a"', "()", '(capt)', "caption", "(caption (rule))", "(caption caption)", '("a")':
            self.refuses('(table "" ' + wrong + " (align left) (row (cell)))")

    def test_classes(self):
        for wrong in ("()", "class", '"a"', "(classes)", '("a")', "(class a)", "(class 1)", '(class ("a"))',
                      "(class (class))"):
            self.refuses("(group " + wrong + ")")
            self.refuses("(para (span " + wrong + "))")


class Lists(NotationCase):
    def test_lists_that_do_not_end_or_begin(self):
        for wrong in ("(", ")", "(rule", "rule)", "(rule))", "((rule)", ")(", "(quote (rule)", "(quote (rule)))",
                      '(para "a"',
                      "(rule) )", "( (rule)"):
            self.refuses(wrong)

    def test_lists_nested_16_and_17_deep(self):
        for front, middle, back, width in (
            ("(quote ", "(rule)", ")", 1), ("(quote ", "(para)", ")", 1), ('(note "a" ', "(rule)", ")", 1),
            ("(group (class) ", "(rule)", ")", 1), ("(bullets (item ", "(rule)", "))", 2),
        ):
            for count in range(8 if width == 2 else 18):
                tree = front * count + middle + back * count
                if count * width + 1 <= 16:
                    self.accepts(tree)
                else:
                    self.refuses(tree)
        for name in "emph", 'link "t"', 'image "t"', "span (class)":
            self.accepts("(para " + ("(" + name + " ") * 14 + '(break)' + ")" * 15)
        self.accepts("(para " + "(emph " * 15 + ")" * 16)
        self.refuses("(para " + "(emph " * 16 + ")" * 17)
        # The classes of a group are a list within it.
        self.accepts("(quote " * 14 + "(group (class))" + ")" * 14)
        self.refuses("(quote " * 15 + "(group (class))" + ")" * 15)

    def test_lists_opened_600_times(self):
        self.refuses("(" * 600)
        self.refuses(")" * 600)
        self.refuses("()" * 300)
        self.refuses("(" * 300 + ")" * 300)
        self.refuses("(quote " * 85 + "(rul")
        self.refuses("(para " + "(emph " * 84 + ")" * 85)

    def test_lists_of_600_bytes(self):
        self.assertEqual(self.ask(markup.losses, "(rule)" * 100), [0])
        self.assertEqual(self.ask(markup.losses, " " * 600), [0])
        self.assertEqual(self.ask(markup.losses, ";" * 600), [0])
        self.assertEqual(self.ask(markup.write, "\n" * 600), [0])
        self.accepts('(para "' + "a" * 591 + '")')
        self.accepts('(para (code "' + "\\\\" * 292 + '"))')
        self.accepts("(para " + '"a"' * 197 + "  )")
        for byte in 0, 34, 48, 92, 97, 127, 128, 255:
            self.refuses([byte] * 600)

    def test_the_empty_list(self):
        self.assertEqual(self.ask(markup.write, []), [0])
        self.assertEqual(self.ask(markup.losses, []), [0])

    def test_whatever_is_cut_off_is_no_notation(self):
        tree = data('(table "t" (caption "\u00e4") (align left) (row (cell (emph "\\u{61}") "b\\n")))')
        self.accepts(tree)
        for end in range(1, len(tree)):
            self.refuses(tree[:end])
            self.refuses(tree[end:])


if __name__ == "__main__":
    unittest.main()
