import itertools
import unittest

from namecall.words import LETTERS, free_words, word_of


class Words(unittest.TestCase):
    def test_each_word_has_one_number(self):
        words = ["".join(word) for many in (1, 2, 3) for word in itertools.product(LETTERS, repeat=many)]
        self.assertEqual([word_of(number) for number in range(len(words))], words)
        self.assertEqual(word_of(len(words)), "aaaa")

    def test_free_words(self):
        for taken in ([], ["a"], ["b", "zz", "long"], list(LETTERS), list(LETTERS) + ["aa", "ac"]):
            for many in (0, 1, 2, 30, 900):
                words = free_words(many, taken)
                self.assertEqual(len(words), many)
                self.assertEqual(len(set(words)), many)
                self.assertEqual(set(words) & set(taken), set())


if __name__ == "__main__":
    unittest.main()
