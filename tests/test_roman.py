"""Operation roman: Roman numbers."""

import unittest

from helper import Case, shown
from macromarkup import markup

DIGITS = {"i": 1, "v": 5, "x": 10, "l": 50, "c": 100, "d": 500, "m": 1000}


def value_of(text):
    """The value of a Roman number: a letter ahead of a greater one is taken away."""
    values = [DIGITS[letter] for letter in text]
    return sum([-one if one < max(values[at:]) else one for at, one in enumerate(values)])


class Roman(Case):
    def test_the_answer_is_the_length_and_the_bytes(self):
        self.assertEqual(self.ask(markup.roman, 1), [1, 105])
        self.assertEqual(self.ask(markup.roman, 1994), [7, 109, 99, 109, 120, 99, 105, 118])

    def test_numbers(self):
        for value, text in (
            (1, "i"), (2, "ii"), (3, "iii"), (4, "iv"), (5, "v"), (6, "vi"), (8, "viii"), (9, "ix"), (10, "x"),
            (14, "xiv"), (39, "xxxix"), (40, "xl"), (44, "xliv"), (49, "xlix"), (50, "l"), (89, "lxxxix"), (90, "xc"),
            (99, "xcix"), (100, "c"), (399, "cccxcix"), (400, "cd"), (444, "cdxliv"), (499, "cdxcix"), (500, "d"),
            (899, "dcccxcix"), (900, "cm"), (999, "cmxcix"), (1000, "m"), (1666, "mdclxvi"), (1994, "mcmxciv"),
            (2026, "mmxxvi"), (3000, "mmm"), (3888, "mmmdccclxxxviii"), (3999, "mmmcmxcix"),
        ):
            self.assertEqual(shown(self.ask(markup.roman, value)), text, value)

    def test_all_numbers(self):
        known = {}
        for value in range(1, 4000):
            text = shown(self.ask(markup.roman, value))
            self.assertRegex(text, "^m{0,3}(cm|cd|d?c{0,3})(xc|xl|l?x{0,3})(ix|iv|v?i{0,3})$")
            self.assertEqual(value_of(text), value, text)
            self.assertNotIn(text, known, value)
            known[text] = value
        self.assertEqual(len(known), 3999)

    def test_numbers_outside_the_range(self):
        for value in 0, 4000, 4001, 10000, 65536, 999999, 1000000, 2147483648, 4294967295:
            self.assertEqual(self.ask(markup.roman, value), [-22], value)

    def test_the_same_as_that_of_a_counter(self):
        for value in list(range(1, 200)) + list(range(200, 4000, 37)) + [3888, 3998, 3999]:
            text = "\\newcounter{c}\\setcounter{c}{" + str(value) + "}\\roman{c}"
            self.assertEqual(self.ask(markup.expand, text), self.ask(markup.roman, value), value)
        for value in 0, 4000, 999999:
            self.fails_in_expansion("\\newcounter{c}\\setcounter{c}{" + str(value) + "}\\roman{c}", 5,
                                    30 + len(str(value)))

    def test_nothing_is_kept_between_calls(self):
        for value, text in (4, "iv"), (3999, "mmmcmxcix"), (1, "i"), (4, "iv"):
            self.assertEqual(self.ask(markup.roman, 0), [-22])
            self.assertEqual(shown(self.ask(markup.roman, value)), text)


if __name__ == "__main__":
    unittest.main()
