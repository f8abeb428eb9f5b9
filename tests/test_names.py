"""Point [5], names: nobodyspeaks/names.py."""

import unittest

from nobodyspeaks import names
from nobodyspeaks.names import is_name

LETTERS = "abcdefghijklmnopqrstuvwxyz"
FIGURES = "0123456789"

# The list as it stands in point [5].
KEPT = (
    "system domain channel person cell tool function task gives body begin end yes policy start text any allow deny "
    "anyone nobody from always with else edit cut read choose write take trust set copy keep recall if call post ask "
    "do return"
).split()


class NamesTest(unittest.TestCase):
    def check(self, text, expected):
        self.assertIs(is_name(text), expected, repr(text))

    def test_lengths(self):
        self.check("", False)
        for length in range(1, 13):
            self.check("x" * length, True)
            self.check("x" + "7" * (length - 1), True)
        for length in (13, 14, 24, 100):
            self.check("x" * length, False)
            self.check("x" + "7" * (length - 1), False)

    def test_ordinary_names(self):
        for text in ("mail", "inbox2", "a", "z", "a0", "z9", "r2d2", "thetwelvesix", "abcdefghijkl", "mnopqrstuvwx"):
            self.check(text, True)

    def test_each_letter_is_a_name_and_no_figure_is(self):
        for letter in LETTERS:
            self.check(letter, True)
        for figure in FIGURES:
            self.check(figure, False)

    def test_a_figure_ahead_and_figures_behind(self):
        for figure in FIGURES:
            self.check(figure + "abc", False)
            self.check(figure + "1", False)
            for letter in LETTERS:
                self.check(figure + letter, False)
                self.check(letter + figure, True)
                self.check(letter + figure + letter, True)
                self.check(letter + figure * 11, True)

    def test_a_sign_of_another_kind_anywhere(self):
        for code in range(256):
            sign = chr(code)
            if sign in LETTERS or sign in FIGURES:
                continue
            for text in (sign, sign + "bc", "a" + sign + "c", "ab" + sign, "a1" + sign, sign * 3, "abcdefghijk" + sign):
                self.check(text, False)

    def test_letters_and_figures_of_other_scripts(self):
        for sign in ("\u0430", "\u0661", "\uff41", "\u00b2", "\u0131"):
            for text in (sign, sign + "bc", "a" + sign + "c", "ab" + sign):
                self.check(text, False)

    def test_capitals_and_blanks_at_each_place(self):
        for at in range(12):
            for sign in ("A", "Z", " ", "_", "-", ".", "~", "\n", "\t"):
                self.check("x" * at + sign + "x" * (11 - at), False)
        self.check(" mail", False)
        self.check("mail ", False)
        self.check("my mail", False)
        self.check("mail\n", False)

    def test_interface(self):
        self.assertEqual(is_name.__module__, "nobodyspeaks.names")
        self.assertIs(names.is_name(text="mail"), True)


class KeptWordsTest(unittest.TestCase):
    def test_each_kept_word_is_no_name(self):
        self.assertEqual(len(set(KEPT)), 42)
        for word in KEPT:
            with self.subTest(word=word):
                self.assertIs(is_name(word), False)

    def test_no_other_word_is_kept(self):
        for text in (
            "word name kind variable statements pattern rule domains cells tasks systems texts go turn jump branch "
            "goes calls ends send hear crash resume mark value frame ground outside stranger reads chosen while for "
            "def class import none true false and or not is in then to at off one two"
        ).split():
            self.assertIs(is_name(text), True, text)
        for first in LETTERS:
            for second in LETTERS + FIGURES:
                for third in LETTERS + FIGURES:
                    for text in (first + second, first + second + third):
                        self.assertIs(is_name(text), text not in KEPT, text)

    def test_a_kept_word_with_a_letter_more(self):
        for word in KEPT:
            for letter in LETTERS:
                for at in range(len(word) + 1):
                    longer = word[:at] + letter + word[at:]
                    self.assertIs(is_name(longer), longer not in KEPT, longer)

    def test_a_kept_word_with_a_letter_less(self):
        for word in KEPT:
            for at in range(len(word)):
                shorter = word[:at] + word[at + 1:]
                self.assertIs(is_name(shorter), shorter not in KEPT, shorter)

    def test_a_kept_word_with_a_figure_behind(self):
        for word in KEPT:
            self.assertIs(is_name(word + "1"), True, word)
            self.assertIs(is_name("1" + word), False, word)

    def test_a_kept_word_made_of_a_kept_word(self):
        self.assertIs(is_name("ask"), False)
        self.assertIs(is_name("task"), False)
        self.assertIs(is_name("tasks"), True)

    def test_kept_words_side_by_side(self):
        self.assertIs(is_name("doend"), True)
        self.assertIs(is_name("do end"), False)


if __name__ == "__main__":
    unittest.main()
