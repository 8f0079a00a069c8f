"""textwrapper/measure.py: points 1, 4 and 5."""

import unittest

from samples import BAD_WIDTHS, FAR_ABOVE, VERSE, many_words
from textwrapper.errors import NoWidth
from textwrapper.measure import long_word, size_of


class SizeOfTest(unittest.TestCase):
    def test_words_and_the_blanks_between(self):
        self.assertEqual(size_of(["one", "two"], 0, 2), 7)
        self.assertEqual(size_of(["a", "b", "c"], 0, 3), 5)
        self.assertEqual(size_of(VERSE, 0, 9), 41)

    def test_a_part_of_the_words(self):
        words = ["a", "bb", "ccc", "dddd"]
        self.assertEqual(size_of(words, 0, 2), 4)
        self.assertEqual(size_of(words, 1, 3), 6)
        self.assertEqual(size_of(words, 2, 4), 8)

    def test_one_word(self):
        self.assertEqual(size_of(["word"], 0, 1), 4)
        self.assertEqual(size_of(["a", "bb", "ccc"], 2, 3), 3)

    def test_no_words(self):
        self.assertEqual(size_of([], 0, 0), 0)
        for place in range(4):
            self.assertEqual(size_of(["a", "bb", "ccc"], place, place), 0)

    def test_every_part_is_as_long_as_its_line(self):
        for begin in range(10):
            size = 0
            for end in range(begin + 1, 10):
                size += len(VERSE[end - 1]) + (1 if end - begin > 1 else 0)
                self.assertEqual(size_of(VERSE, begin, end), size)

    def test_two_thousand_words(self):
        words = many_words(2000)
        self.assertEqual(size_of(words, 0, 2000), len("".join(words)) + 1999)
        self.assertEqual(size_of(["x"] * 2000, 0, 2000), 3999)

    def test_words_stay_as_they_were(self):
        words = list(VERSE)
        size_of(words, 2, 5)
        self.assertEqual(words, VERSE)


class LongWordTest(unittest.TestCase):
    def test_the_first_word_that_does_not_fit(self):
        self.assertEqual(long_word(["a", "bbb", "cc", "dddd"], 2), 1)
        self.assertEqual(long_word(["a", "bbb", "cc", "dddd"], 3), 3)
        self.assertEqual(long_word(["bbb", "a"], 1), 0)
        self.assertEqual(long_word(["a", "bb", "bb"], 1), 1)

    def test_none_where_all_fit(self):
        self.assertIsNone(long_word(["a", "bbb", "cc"], 4))
        self.assertIsNone(long_word([], 1))

    def test_a_word_as_long_as_the_width_fits(self):
        self.assertIsNone(long_word(["a", "bbb", "cc"], 3))
        self.assertIsNone(long_word(["word"], 4))
        self.assertEqual(long_word(["word"], 3), 0)

    def test_a_width_of_one(self):
        self.assertIsNone(long_word(["a", "b"], 1))
        self.assertEqual(long_word(["a", "b", "cc"], 1), 2)

    def test_a_line_that_does_not_fit_is_no_long_word(self):
        self.assertIsNone(long_word(VERSE, 5))

    def test_widths_of_any_size(self):
        self.assertIsNone(long_word(VERSE, FAR_ABOVE))

    def test_a_width_below_one_is_refused(self):
        for width in BAD_WIDTHS:
            for words in [[], ["a"], ["long"], VERSE]:
                with self.assertRaises(NoWidth):
                    long_word(words, width)

    def test_two_thousand_words(self):
        words = ["x"] * 2000
        self.assertIsNone(long_word(words, 1))
        words[1999] = "xx"
        self.assertEqual(long_word(words, 1), 1999)

    def test_words_stay_as_they_were(self):
        words = list(VERSE)
        long_word(words, 4)
        with self.assertRaises(NoWidth):
            long_word(words, 0)
        self.assertEqual(words, VERSE)


if __name__ == "__main__":
    unittest.main()
