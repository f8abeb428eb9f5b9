"""Point [8], swept: texts in which a word is changed, put in or left out are refused where a second reading, made
another way (tests/grammar.py), refuses them."""

import unittest

from grammar import KEPT, oracle, shortest
from samples import EMPTY, FULL, check_equal, check_read, refused_at

from nobodyspeaks.reading import read_system

STRANGE = ["X", "mailX", "9", "0", "1", "4", "5", "thirteensigns", "thetwelvesix", "a_b", "new"]
# Each part and each statement once or twice, so that all its words can be changed to all words.
SMALL = (
    "system domain d a b end domain e a c end channel m channel n person p cell i d cell j text tool o d e end tool "
    "q end "
    "function f x d t text gives text function g gives d task k x d y e end task l t text end "
    "body f x d t text begin return t end body g u d t text begin if u a if u b end return u else call u g end end end "
    "body k x d y e t text u text z d begin read t m choose y from x t y end write t from end take x t trust y u "
    "set x b copy t u copy x z keep i z recall u j if y c call u f z t end post k z y end else do o x y with u t end "
    "end "
    "ask p l u end do q with t end end "
    "body l t text begin end "
    "yes p k a any end yes p l any end "
    "policy allow o b any from m n end 2 deny q nobody always end policy allow q anyone 4 end start k b c end end"
)


class SweepTest(unittest.TestCase):
    def compare(self, words):
        text = " ".join(words)
        expected = oracle(text)
        self.assertEqual(refused_at(text), expected, text)
        if expected is None:
            system = read_system(text)
            self.assertEqual(system.text(), shortest(text), text)
            check_equal(self, system, read_system(system.text()))

    def test_the_texts_themselves(self):
        for text in (EMPTY, FULL, SMALL):
            check_read(self, text)
            self.assertIsNone(oracle(text))

    def test_cut_off_at_each_place(self):
        for text in (EMPTY, FULL, SMALL):
            words = text.split()
            for many in range(len(words)):
                self.assertEqual(refused_at(" ".join(words[:many])), many, words[:many])
                self.assertEqual(oracle(" ".join(words[:many])), many)

    def test_a_word_left_out_and_a_word_twice(self):
        for text in (EMPTY, FULL, SMALL):
            words = text.split()
            for at in range(len(words)):
                self.compare(words[:at] + words[at + 1:])
                self.compare(words[:at + 1] + words[at:])

    def test_two_neighbours_changed_about(self):
        for text in (EMPTY, FULL, SMALL):
            words = text.split()
            for at in range(len(words) - 1):
                self.compare(words[:at] + [words[at + 1], words[at]] + words[at + 2:])

    def test_each_word_changed_to_each_other(self):
        words = SMALL.split()
        for other in sorted(set(words + KEPT + STRANGE)):
            for at in range(len(words)):
                self.compare(words[:at] + [other] + words[at + 1:])

    def test_each_word_put_in_everywhere(self):
        words = SMALL.split()
        for other in sorted(set(words + KEPT + STRANGE)):
            for at in range(len(words) + 1):
                self.compare(words[:at] + [other] + words[at:])


if __name__ == "__main__":
    unittest.main()
