"""Points 2 to 4: names, whole numbers, the words of a line."""

import unittest

from curdcellar.errors import BadNumber, CellarError
from curdcellar.words import is_name, whole, words

LETTERS = "abcdefghijklmnopqrstuvwxyz"
FIGURES = "0123456789"
# All signs that may be handed in: from the blank to ~ without the per cent sign.
SIGNS = "".join(chr(code) for code in range(32, 127) if code != 37)
PLACES = (0, 3, 6)


def with_sign(text, place, sign):
    return text[:place] + sign + text[place + 1:]


class Names(unittest.TestCase):
    def test_lengths(self):
        for size in range(201):
            with self.subTest(size=size):
                self.assertIs(is_name("a" * size), 1 <= size <= 12)
                self.assertIs(is_name("7" * size), 1 <= size <= 12)

    def test_one_sign(self):
        for sign in SIGNS:
            with self.subTest(sign=sign):
                self.assertIs(is_name(sign), sign in LETTERS + FIGURES)

    def test_each_sign_at_each_place(self):
        for text in ("comte42", "gruyere12345"):
            for place in range(len(text)):
                for sign in SIGNS:
                    name = with_sign(text, place, sign)
                    with self.subTest(name=name):
                        self.assertIs(is_name(name), sign in LETTERS + FIGURES)

    def test_no_name_in_a_long_text(self):
        self.assertIs(is_name("brie" + " " * 8), False)
        self.assertIs(is_name(" " * 200), False)
        self.assertIs(is_name("wheel1/1"), False)


class Wholes(unittest.TestCase):
    def refuses(self, text):
        for error in (BadNumber, CellarError, ValueError):
            with self.subTest(text=text, error=error):
                with self.assertRaises(error):
                    whole(text)

    def test_numbers(self):
        for text, number in (("0", 0), ("7", 7), ("10", 10), ("999999", 999999), ("9999999", 9999999)):
            with self.subTest(text=text):
                self.assertEqual(whole(text), number)
                self.assertIs(type(whole(text)), int)

    def test_noughts_at_the_front(self):
        for text, number in (("007", 7), ("0000001", 1), ("0123456", 123456), ("08", 8), ("0010", 10)):
            with self.subTest(text=text):
                self.assertEqual(whole(text), number)

    def test_noughts_alone(self):
        for size in range(1, 8):
            self.assertEqual(whole("0" * size), 0)
        self.refuses("0" * 8)

    def test_lengths(self):
        for size in range(1, 8):
            self.assertEqual(whole("1" * size), int("1" * size))
        for size in (0, 8, 9, 12, 200):
            self.refuses("1" * size)
        self.refuses("00000001")

    def test_each_sign_alone(self):
        for sign in SIGNS:
            if sign in FIGURES:
                self.assertEqual(whole(sign), FIGURES.index(sign))
            else:
                self.refuses(sign)

    def test_a_sign_that_is_no_figure(self):
        for place in PLACES:
            for sign in SIGNS:
                text = with_sign("1234567", place, sign)
                if sign in FIGURES:
                    self.assertEqual(whole(text), int(text))
                else:
                    self.refuses(text)

    def test_forms_that_python_would_read(self):
        for text in (" 1", "1 ", "+1", "-1", "-0", "1_0", "_1", "1_", "0x1", "1e3", "1.0", "1 0", " "):
            self.refuses(text)


class Words(unittest.TestCase):
    def test_no_words(self):
        for size in (0, 1, 2, 3, 200):
            self.assertEqual(words(" " * size), [])

    def test_one_word_with_blanks_around_it(self):
        for front in (0, 1, 2, 5):
            for end in (0, 1, 2, 5):
                self.assertEqual(words(" " * front + "turn" + " " * end), ["turn"])

    def test_more_words(self):
        for between in (1, 2, 7):
            for around in (0, 1, 4):
                line = " " * around + (" " * between).join(["wash", "w1", "b", "wash"]) + " " * around
                self.assertEqual(words(line), ["wash", "w1", "b", "wash"])

    def test_unlike_runs_of_blanks(self):
        self.assertEqual(words("  a b   cc     d "), ["a", "b", "cc", "d"])

    def test_every_sign_but_the_blank_stands_in_words(self):
        for sign in SIGNS.replace(" ", ""):
            with self.subTest(sign=sign):
                self.assertEqual(words(sign), [sign])
                self.assertEqual(words(f" a{sign}b  {sign}{sign} "), [f"a{sign}b", sign * 2])
        self.assertEqual(words(SIGNS), [SIGNS[1:]])

    def test_long_lines(self):
        self.assertEqual(words("x" * 200), ["x" * 200])
        self.assertEqual(words("x " * 100), ["x"] * 100)

    def test_the_list_is_the_callers_own(self):
        first = words("a b")
        first.append("c")
        first[0] = "z"
        self.assertEqual(words("a b"), ["a", "b"])
        self.assertEqual(words(""), [])
        words("").append("c")
        self.assertEqual(words(""), [])


if __name__ == "__main__":
    unittest.main()
