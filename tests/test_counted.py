"""textwrapper/counted.py: points 1 and 11, and the refusals of point 8."""

import unittest

from samples import (
    BAD_WIDTHS, FAR_ABOVE, FAR_BELOW, VERSE, best_by_search, fitting_starts, many_words,
    sizes_by_hand, sum_by_hand, word_lists,
)
from textwrapper.breaks import quick_starts
from textwrapper.counted import starts_in
from textwrapper.errors import LongWord, NoWidth, TooFew, TooMany
from textwrapper.least import best_starts

FIVE = ["a", "b", "c", "d", "e"]
SOME_NUMBERS = [FAR_BELOW, -1, 0, 1, 2, 3, 100, FAR_ABOVE]


class StartsInTest(unittest.TestCase):
    def test_the_least_sum_in_just_that_many_lines(self):
        words = ["aaa", "bb", "cc", "ddddd"]
        self.assertEqual(sum_by_hand(words, 6, [0, 1, 3]), 10)
        self.assertEqual(sum_by_hand(words, 6, [0, 2, 3]), 16)
        self.assertEqual(starts_in(words, 6, 3), [0, 1, 3])
        self.assertEqual(starts_in(words, 6, 4), [0, 1, 2, 3])

    def test_more_lines_than_the_best_starts_have(self):
        self.assertEqual(best_starts(VERSE, 15), [0, 3, 6])
        self.assertEqual(starts_in(VERSE, 15, 3), [0, 3, 6])
        for starts in [[0, 2, 5, 8], [0, 3, 5, 8]]:
            self.assertEqual(sum_by_hand(VERSE, 15, starts), 52)
        self.assertEqual(starts_in(VERSE, 15, 4), [0, 3, 5, 8])

    def test_of_several_those_with_long_first_lines(self):
        for starts in [[0, 1, 2, 4], [0, 1, 3, 4], [0, 2, 3, 4]]:
            self.assertEqual(sum_by_hand(FIVE, 3, starts), 8)
        self.assertEqual(starts_in(FIVE, 3, 4), [0, 2, 3, 4])
        words = ["bb", "bb", "a", "bb", "bb"]
        for starts in [[0, 1, 2, 4], [0, 1, 3, 4]]:
            self.assertEqual(sum_by_hand(words, 4, starts), 8)
        self.assertEqual(starts_in(words, 4, 4), [0, 1, 3, 4])

    def test_as_many_lines_as_the_quick_starts_have(self):
        for width in [5, 9, 12, 20, 40, 41, FAR_ABOVE]:
            many = len(quick_starts(VERSE, width))
            self.assertEqual(len(starts_in(VERSE, width, many)), many)
            with self.assertRaises(TooFew):
                starts_in(VERSE, width, many - 1)

    def test_as_many_lines_as_words(self):
        for width in [5, 9, 41, FAR_ABOVE]:
            self.assertEqual(starts_in(VERSE, width, 9), list(range(9)))
            with self.assertRaises(TooMany):
                starts_in(VERSE, width, 10)

    def test_the_last_line_counts_nothing(self):
        # Gaps of 0 and 5 against 2 and 3: were the last one counted, [0, 1] would be better.
        self.assertEqual(starts_in(["aaaa", "b", "c"], 6, 2), [0, 2])

    def test_one_line(self):
        self.assertEqual(starts_in(VERSE, 41, 1), [0])
        self.assertEqual(starts_in(VERSE, FAR_ABOVE, 1), [0])
        with self.assertRaises(TooFew):
            starts_in(VERSE, 40, 1)

    def test_one_word(self):
        self.assertEqual(starts_in(["word"], 4, 1), [0])
        self.assertEqual(starts_in(["word"], FAR_ABOVE, 1), [0])
        for many in [0, -1, FAR_BELOW]:
            with self.assertRaises(TooFew):
                starts_in(["word"], 4, many)
        for many in [2, 3, FAR_ABOVE]:
            with self.assertRaises(TooMany):
                starts_in(["word"], 4, many)

    def test_no_words(self):
        for width in [1, 80, FAR_ABOVE]:
            self.assertEqual(starts_in([], width, 0), [])
            for many in [-1, -2, FAR_BELOW]:
                with self.assertRaises(TooFew):
                    starts_in([], width, many)
            for many in [1, 2, FAR_ABOVE]:
                with self.assertRaises(TooMany):
                    starts_in([], width, many)

    def test_a_width_of_one(self):
        self.assertEqual(starts_in(FIVE, 1, 5), [0, 1, 2, 3, 4])
        with self.assertRaises(TooFew):
            starts_in(FIVE, 1, 4)
        with self.assertRaises(TooMany):
            starts_in(FIVE, 1, 6)

    def test_widths_of_any_size(self):
        self.assertEqual(starts_in(["a", "bbb", "cc"], FAR_ABOVE, 2), [0, 2])
        self.assertEqual(starts_in(["a", "bbb", "cc"], FAR_ABOVE, 3), [0, 1, 2])

    def test_against_a_search_through_all_starts(self):
        for words in word_lists([1, 2, 4], 6):
            for width in [4, 5, 7, 12, 30]:
                found = fitting_starts(words, width)
                for many in range(-2, len(words) + 3):
                    self.check(words, width, many, [row for row in found if len(row) == many])

    def check(self, words, width, many, found):
        if found:
            self.assertEqual(starts_in(words, width, many), best_by_search(words, width, found))
        else:
            with self.assertRaises(TooMany if many > len(words) else TooFew):
                starts_in(words, width, many)

    def test_longer_lists_against_a_search_through_all_starts(self):
        for begin in range(0, 60, 6):
            words = many_words(80)[begin:begin + 10]
            for width in [9, 14, 23]:
                found = fitting_starts(words, width)
                for many in range(11):
                    self.check(words, width, many, [row for row in found if len(row) == many])

    def test_the_last_line_has_all_that_are_left(self):
        # Four lines of up to 12 signs could do with less, if words were left behind them.
        words = ["x" * size for size in [2, 1, 3, 1, 1, 4, 2, 4, 3, 2, 1, 4, 4, 1]]
        found = [starts for starts in fitting_starts(words, 12) if len(starts) == 4]
        self.assertEqual(starts_in(words, 12, 4), [0, 5, 8, 11])
        self.assertEqual(best_by_search(words, 12, found), [0, 5, 8, 11])

    def test_of_each_number_between_there_are_some(self):
        words = many_words(40)
        for width in [9, 20, 72]:
            least = len(quick_starts(words, width))
            for many in range(least, 41):
                starts = starts_in(words, width, many)
                self.assertEqual(len(starts), many)
                self.assertEqual(starts, sorted(set(starts)))
                self.assertLessEqual(max(sizes_by_hand(words, starts)), width)

    def test_the_number_of_lines_of_the_best_starts(self):
        for count in [1, 9, 40, 120]:
            words = many_words(count)
            for width in [9, 20, 72, 1000]:
                best = best_starts(words, width)
                self.assertEqual(starts_in(words, width, len(best)), best)

    def test_a_hundred_and_twenty_words(self):
        words = many_words(120)
        size = len(" ".join(words))
        self.assertEqual(starts_in(words, 9, 120), list(range(120)))
        self.assertEqual(starts_in(words, size, 1), [0])
        self.assertEqual(starts_in(words, size, 2), [0, 119])
        self.assertEqual(starts_in(words, size - 1, 2), [0, 119])
        self.assertEqual(starts_in(["x"] * 120, 3, 60), list(range(0, 120, 2)))
        self.assertEqual(starts_in(["x"] * 120, 3, 61), [*range(0, 120, 2), 119])
        for width, many in [(size - 1, 1), (size, 0), (9, 50)]:
            with self.assertRaises(TooFew):
                starts_in(words, width, many)
        with self.assertRaises(TooMany):
            starts_in(words, size, 121)

    def test_a_few_more_words_than_the_limit_are_no_fault(self):
        self.assertEqual(starts_in(["x"] * 130, 3, 65), list(range(0, 130, 2)))

    def test_a_width_below_one_is_refused_first(self):
        for width in BAD_WIDTHS:
            for words in [[], ["a"], ["long", "words"]]:
                for many in SOME_NUMBERS:
                    with self.assertRaises(NoWidth):
                        starts_in(words, width, many)

    def test_a_long_word_is_refused_ahead_of_the_number(self):
        for words in [["long"], ["a", "long"], ["long", "a"], ["a", "long", "b"]]:
            for many in SOME_NUMBERS:
                with self.assertRaises(LongWord):
                    starts_in(words, 3, many)

    def test_words_stay_as_they_were(self):
        words = list(VERSE)
        starts_in(words, 10, 5)
        for width, many in [(0, 1), (3, 1), (10, 1), (10, 10)]:
            with self.assertRaises(ValueError):
                starts_in(words, width, many)
        self.assertEqual(words, VERSE)

    def test_each_list_is_a_new_one(self):
        first = starts_in(VERSE, 41, 1)
        first.append(99)
        self.assertEqual(starts_in(VERSE, 41, 1), [0])
        nothing = []
        self.assertIsNot(starts_in(nothing, 5, 0), nothing)
        self.assertIsNot(starts_in(nothing, 5, 0), starts_in(nothing, 5, 0))


if __name__ == "__main__":
    unittest.main()
