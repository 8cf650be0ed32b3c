"""[12] to [17]: rule texts, runs, changing, steps, places."""

import unittest

from wordquarry.analyzers import Analyzer
from wordquarry.errors import BadText, BadWord, TooMany


def tokens(text, *lines):
    return Analyzer("\n".join(lines)).tokens(text)


def words(text, *lines):
    return Analyzer("\n".join(lines)).words_of(text)


class RuleTexts(unittest.TestCase):

    def wrong(self, text, line, column):
        with self.assertRaises(BadText) as held:
            Analyzer(text)
        self.assertEqual((held.exception.line, held.exception.column), (line, column), text)

    def test_no_texts(self):
        for value in (None, 3, b"cut all", "cut all\t", "cut all\nfold % a", ["cut all"]):
            with self.assertRaises(BadWord) as held:
                Analyzer(value)
            self.assertEqual(held.exception.what, "text")

    def test_cut(self):
        for text in ("cut all", "cut letters", "cut digits", "cut digits letters", "cut signs -'",
                     "cut letters signs -", "cut digits letters signs !\"#$&'()*+,-./:;<=>?"):
            self.assertEqual(Analyzer(text).text, text)
        for text, column in (("", 1), ("cut", 4), ("cut ", 5), ("cut  all", 5), ("cut all ", 9),
                             (" cut all", 1), ("cu", 1), ("cut al", 5), ("cut all letters", 9),
                             ("cut letters all", 13), ("cut letters letters", 13),
                             ("cut signs", 10), ("cut signs -a", 11), ("cut signs --", 11),
                             ("cut signs - letters", 13), ("cut signs 1", 11), ("cut all signs -", 9),
                             ("cut signs !\"#$&'()*+,-./:;<=>?@", 11), ("fold capitals", 1),
                             ("cut letters digits letters", 20), ("part rises", 1), ("Cut all", 1),
                             ("cut signs - -", 13), ("cut letter", 5)):
            self.wrong(text, 1, column)

    def test_parting(self):
        for lines in ("part rises", "part changes", "part changes\npart rises"):
            Analyzer("cut all\n" + lines)
        for line, column in (("part", 5), ("part ", 6), ("part rise", 6), ("part rises x", 12),
                             ("part rises changes", 12), ("cut all", 1), ("", 1), (" ", 1)):
            self.wrong("cut all\n" + line, 2, column)
        self.wrong("cut all\npart rises\npart rises", 3, 6)
        self.wrong("cut all\npart rises\npart changes\npart rises", 4, 1)
        self.wrong("cut all\nfold capitals\npart rises", 3, 1)
        self.wrong("cut all\nboth\npart rises", 3, 1)
        self.wrong("cut all\npart rises\n", 3, 1)

    def test_changing(self):
        Analyzer("cut all\nfold capitals\nfold a b\nfold 1 ~\nleave abcdefghijklmnopqrst\nleave '")
        for line, column in (("fold", 5), ("fold a", 7), ("fold a a", 8), ("fold ab c", 6),
                             ("fold a bc", 8), ("fold capital", 6), ("fold capitals b", 15),
                             ("fold a b c", 10), ("fold a  b", 8), ("leave", 6), ("leave aa", 7),
                             ("leave abcdefghijklmnopqrstu", 7), ("leave a b", 9), ("leav a", 1)):
            self.wrong("cut all\n" + line, 2, column)
        self.wrong("cut all\nthen\nfold capitals", 3, 1)
        self.wrong("cut all\ndrop a\nleave a", 3, 1)

    def test_steps(self):
        for line in ("drop a", "drop a a", "drop a under", "close " + " ".join("abcdefghijkl"),
                     "drop under 1", "close over 40", "drop " + "x" * 40, "end s off 1", "end s to t 20",
                     "end abcdefghij to abcdefghij 9", "end off off 1", "end to to to 1", "then",
                     "also a b", "also a b c d e f g", "both"):
            Analyzer("cut all\n" + line)
        for line, column in (("drop", 5), ("drop ", 6), ("drop under", 11), ("drop under a", 12),
                             ("drop under 0", 12), ("drop under 41", 12), ("drop under 05", 12),
                             ("drop under 5 6", 14), ("close over 100", 12), ("drop over -1", 11),
                             ("drop " + "x" * 41, 6), ("drop " + " ".join("abcdefghijklm"), 30),
                             ("end", 4), ("end s", 6), ("end s of 1", 7), ("end s off", 10),
                             ("end s off 0", 11), ("end s off 21", 11), ("end s off 2 2", 13),
                             ("end s to", 9), ("end s to st 2", 10), ("end s to t", 11),
                             ("end s to t x", 12), ("end s to t 02", 12), ("end abcdefghijk off 2", 5),
                             ("end s  off 2", 7), ("then now", 6), ("both ", 6), ("also a", 7),
                             ("also", 5), ("also a a", 8), ("also a b a", 10), ("Then", 1),
                             ("also a b c d e f g h", 20), ("drops a", 1)):
            self.wrong("cut all\n" + line, 2, column)

    def test_bounds(self):
        def bounds(text):
            try:
                Analyzer(text)
            except TooMany as error:
                return error.what, error.many, error.limit
            return None
        self.assertIsNone(bounds("cut all" + "\nthen" * 29))
        self.assertEqual(bounds("cut all" + "\nthen" * 30), ("lines", 31, 30))
        self.assertEqual(bounds("wrong" + "\nwrong" * 40), ("lines", 41, 30))
        self.assertIsNone(bounds("cut all" + "\nend s off 2" * 24))
        self.assertEqual(bounds("cut all" + "\nend s off 2" * 25), ("ends", 25, 24))
        self.assertIsNone(bounds("cut all" + "\nend s off 2\nthen" * 3))
        self.assertEqual(bounds("cut all" + "\nend s off 2\nthen" * 4), ("groups", 4, 3))
        self.assertEqual(bounds("cut all" + ("\nend s off 2" * 7 + "\nboth") * 3 + "\nend s off 2" * 4),
                         ("ends", 25, 24))
        self.assertEqual(bounds("cut all" + "\nend s off 2\ndrop a" * 5), ("groups", 5, 3))
        self.wrong("cut all" + "\nend s off 2" * 25 + "\nx", 27, 1)

    def test_equal(self):
        self.assertTrue(Analyzer("cut all") == Analyzer("cut all"))
        self.assertFalse(Analyzer("cut all") == Analyzer("cut all\nthen"))
        self.assertFalse(Analyzer("cut all") == "cut all" or Analyzer("cut all") == None)


class Tokens(unittest.TestCase):

    def test_example(self):
        told = tokens("The ponies' re-run", "cut letters signs -'", "fold capitals", "leave '",
                      "drop the of", "both", "end ies to y 2", "end s off 3")
        self.assertEqual(told, [("ponies", 1, 4, 11), ("pony", 1, 4, 11), ("re-run", 2, 12, 18)])

    def test_runs(self):
        self.assertEqual(tokens("a1-b\nc d", "cut all"),
                         [("a1-b", 0, 0, 4), ("c", 1, 5, 6), ("d", 2, 7, 8)])
        self.assertEqual(words("a1-b'c", "cut letters"), ["a", "b", "c"])
        self.assertEqual(words("a1-b'c2", "cut digits"), ["1", "2"])
        self.assertEqual(words("a1-b'c", "cut letters digits"), ["a1", "b", "c"])
        self.assertEqual(words("a1-b'c", "cut letters signs '"), ["a", "b'c"])
        self.assertEqual(words("a1-b'c", "cut signs '-"), ["-", "'"])
        self.assertEqual(tokens("", "cut all"), [])
        self.assertEqual(tokens(" \n", "cut all"), [])

    def test_parting(self):
        self.assertEqual(tokens("aBcDE1f", "cut all", "part rises"),
                         [("a", 0, 0, 1), ("Bc", 1, 1, 3), ("DE1f", 2, 3, 7)])
        self.assertEqual(words("a1B-2C3", "cut all", "part changes"), ["a", "1", "B-2", "C", "3"])
        self.assertEqual(words("aB1c", "cut all", "part changes", "part rises"), ["a", "B", "1", "c"])
        self.assertEqual(words("a-B'C", "cut all", "part rises", "leave -"), ["aB'C"])
        self.assertEqual(words("aB", "cut all", "part rises", "fold capitals"), ["a", "b"])

    def test_long_runs(self):
        self.assertEqual(tokens("x" * 40 + " " + "y" * 41 + " z", "cut all"),
                         [("x" * 40, 0, 0, 40), ("z", 2, 83, 84)])
        self.assertEqual(words("x" * 40 + "Y" * 41, "cut all", "part rises"), ["x" * 40])
        self.assertEqual(words("'" * 30 + "x" * 11, "cut all", "leave '"), [])
        self.assertEqual(tokens("y" * 41 + " z", "cut all", "close over 1"), [("z", 1, 42, 43)])

    def test_changing(self):
        self.assertEqual(words("aBc", "cut all", "fold capitals", "fold b x"), ["axc"])
        self.assertEqual(words("aBc", "cut all", "fold b x", "fold capitals"), ["abc"])
        self.assertEqual(words("aBc", "cut all", "fold a b", "fold b c", "leave c"), ["B"])
        self.assertEqual(words("ab", "cut all", "leave a", "fold a x"), ["b"])
        self.assertEqual(tokens("'' x", "cut all", "leave '"), [("x", 1, 3, 4)])

    def test_dropping(self):
        self.assertEqual(tokens("the cat of", "cut all", "drop the of"), [("cat", 1, 4, 7)])
        self.assertEqual(tokens("the cat of it", "cut all", "close the of"),
                         [("cat", 0, 4, 7), ("it", 1, 11, 13)])
        self.assertEqual(tokens("a bb ccc", "cut all", "drop under 2", "close over 2"), [("bb", 1, 2, 4)])
        self.assertEqual(words("a bb ccc", "cut all", "close over 1"), ["a"])
        self.assertEqual(tokens("a b", "cut all", "also a x", "close a", "drop x"), [("b", 1, 2, 3)])
        self.assertEqual(tokens("a b", "cut all", "also a x", "drop a", "close x"), [("b", 0, 2, 3)])
        self.assertEqual(tokens("a b", "cut all", "also a x", "close a x"), [("b", 0, 2, 3)])
        self.assertEqual(tokens("a b", "cut all", "also a x", "close x"),
                         [("a", 0, 0, 1), ("b", 1, 2, 3)])

    def test_ends(self):
        self.assertEqual(words("asss ss s", "cut all", "end s off 1"), ["ass", "s", "s"])
        self.assertEqual(words("asss", "cut all", "end s off 1", "then", "end s off 1"), ["as"])
        self.assertEqual(words("bies", "cut all", "end ies to y 2", "end s off 3"), ["bie"])
        self.assertEqual(words("bbies", "cut all", "end ies to y 2", "end y off 1"), ["bby"])
        self.assertEqual(words("bbies", "cut all", "end ies to y 2", "then", "end y off 1"), ["bb"])
        self.assertEqual(words("abc", "cut all", "end c to d 3"), ["abc"])
        self.assertEqual(words("xing", "cut all", "end ng to ng 1", "end ing off 1"), ["xing"])

    def test_also_and_both(self):
        self.assertEqual(words("a", "cut all", "also a b c", "also b d", "drop a"), ["b", "d", "c"])
        self.assertEqual(words("as", "cut all", "both", "end s off 1", "both", "also a b"),
                         ["as", "a", "b"])
        self.assertEqual(words("a", "cut all", "both", "drop a"), ["a"])
        self.assertEqual(words("a", "cut all", "both", "both"), ["a"])
        self.assertEqual(words("a", "cut all", "also a b", "both", "also b a c"), ["a", "b", "c"])
        self.assertEqual(tokens("x a", "cut all", "also a b"), [("x", 0, 0, 1), ("a", 1, 2, 3), ("b", 1, 2, 3)])

    def test_many_words_stay_few(self):
        lines = ["also " + " ".join("abcdefg"[at:] + "abcdefg"[:at]) for at in range(7)] * 4
        self.assertEqual(sorted(words("a", "cut all", *lines)), list("abcdefg"))

    def test_no_texts(self):
        for value in (None, 1, "a\t", b"a", "50%", ["a"]):
            for deed in ("tokens", "words_of"):
                with self.assertRaises(BadWord) as held:
                    getattr(Analyzer("cut all"), deed)(value)
                self.assertEqual(held.exception.what, "text")

    def test_new_lists(self):
        analyzer = Analyzer("cut all")
        analyzer.tokens("a").append(1)
        analyzer.words_of("a").append(1)
        self.assertEqual((analyzer.tokens("a"), analyzer.words_of("a")), ([("a", 0, 0, 1)], ["a"]))


if __name__ == "__main__":
    unittest.main()
