"""[2], [4]: signs, texts, words, names, integers."""

import unittest

from wordquarry import signs

NONE = (None, 1, True, False, b"a", ["a"], ("a",), 1.5, {}, object())


class Signs(unittest.TestCase):

    def test_all_signs(self):
        expected = "\n" + "".join(chr(code) for code in range(32, 127) if chr(code) != "%")
        self.assertEqual(signs.all_signs(), expected)
        self.assertEqual(len(signs.all_signs()), 95)

    def test_is_sign(self):
        for code in range(300):
            sign = chr(code)
            self.assertIs(signs.is_sign(sign), sign in signs.all_signs(), code)
        for value in NONE + ("", "ab", "\n\n", " !"):
            self.assertIs(signs.is_sign(value), False, value)

    def test_is_text(self):
        for text in ("", "a", "a b\nc", signs.all_signs() * 3):
            self.assertIs(signs.is_text(text), True)
        for value in NONE + ("50%", "a\tb", "\x7f", "\u00e9", "a\r", "\ud800"):
            self.assertIs(signs.is_text(value), False, value)

    def test_is_word(self):
        for word in ("a", "~", "it's", "x" * 40, "{}\\"):
            self.assertIs(signs.is_word(word), True)
        for value in NONE + ("", "x" * 41, "a b", "a\n", " ", "\n", "%", "a\t"):
            self.assertIs(signs.is_word(value), False, value)

    def test_is_name(self):
        for name in ("a", "body", "z" * 12):
            self.assertIs(signs.is_name(name), True)
        for value in NONE + ("", "z" * 13, "Body", "a1", "a b", "a\n", "\u00e9"):
            self.assertIs(signs.is_name(value), False, value)

    def test_is_integer(self):
        for number in (0, -1, 10 ** 3999):
            self.assertIs(signs.is_integer(number), True)
        for value in (True, False, None, "1", 1.0, [1]):
            self.assertIs(signs.is_integer(value), False)

    def test_lines_of(self):
        self.assertEqual(signs.lines_of(""), ("",))
        self.assertEqual(signs.lines_of("a"), ("a",))
        self.assertEqual(signs.lines_of("\na\n\nb\n"), ("", "a", "", "b", ""))
        self.assertEqual(signs.lines_of("\n"), ("", ""))


if __name__ == "__main__":
    unittest.main()
