"""textwrapper/least.py: points 1, 8 and 9."""

import unittest

from samples import (
    BAD_WIDTHS, FAR_ABOVE, VERSE, best_by_search, fitting_starts, many_words, sizes_by_hand,
    sum_by_hand, word_lists,
)
from textwrapper.errors import LongWord, NoWidth
from textwrapper.least import best_starts, table_of

# Here the quick starts [0, 2, 3] have a sum of 16.
UNEVEN = ["aaa", "bb", "cc", "ddddd"]
# By a width of 4 three starts of these have the least sum, 9. Two of them have the most
# words in the first line, and one of these the most in the second.
TIES = ["a", "bb", "c", "dd", "e", "fff"]
BOTH = [table_of, best_starts]


class RefusalsTest(unittest.TestCase):
    def test_a_width_below_one_is_refused_first(self):
        for function in BOTH:
            for width in BAD_WIDTHS:
                for words in [[], ["a"], ["long", "words"], VERSE]:
                    with self.assertRaises(NoWidth):
                        function(words, width)

    def test_a_long_word_is_refused(self):
        for function in BOTH:
            for words in [["long"], ["long", "a"], ["a", "long"], ["a", "long", "b"]]:
                with self.assertRaises(LongWord):
                    function(words, 3)
                function(words, 4)
            with self.assertRaises(LongWord):
                function(["aa"], 1)
            with self.assertRaises(LongWord):
                function(many_words(2000)[:1999] + ["x" * 73], 72)

    def test_words_stay_as_they_were(self):
        for function in BOTH:
            words = list(VERSE)
            function(words, 10)
            function(words, 100)
            with self.assertRaises(LongWord):
                function(words, 3)
            with self.assertRaises(NoWidth):
                function(words, 0)
            self.assertEqual(words, VERSE)


class TableOfTest(unittest.TestCase):
    def test_the_least_sum_from_each_place(self):
        self.assertEqual(table_of(UNEVEN, 6), [10, 1, 16, 0, 0])
        self.assertEqual(table_of(VERSE, 10), [2, 26, 1, 17, 0, 16, 0, 0, 0, 0])
        self.assertEqual(table_of(VERSE, 15), [1, 9, 0, 1, 9, 0, 0, 0, 0, 0])

    def test_no_words_and_one(self):
        self.assertEqual(table_of([], 1), [0])
        self.assertEqual(table_of([], FAR_ABOVE), [0])
        self.assertEqual(table_of(["word"], 4), [0, 0])
        self.assertEqual(table_of(["word"], 99), [0, 0])

    def test_a_width_of_one(self):
        self.assertEqual(table_of(["a", "b", "c"], 1), [0, 0, 0, 0])

    def test_a_width_of_just_the_longest_word(self):
        self.assertEqual(table_of(UNEVEN, 5), [4, 0, 9, 0, 0])
        self.assertEqual(table_of(["a", "long", "b"], 4), [9, 0, 0, 0])

    def test_a_width_of_just_a_lines_size(self):
        self.assertEqual(table_of(["ab", "cd", "ef"], 5), [0, 0, 0, 0])
        self.assertEqual(table_of(["ab", "cd", "ef"], 4), [8, 4, 0, 0])
        self.assertEqual(table_of(VERSE, 41), [0] * 10)
        self.assertEqual(table_of(VERSE, 40)[:2], [9, 0])

    def test_a_width_far_above(self):
        self.assertEqual(table_of(VERSE, FAR_ABOVE), [0] * 10)

    def test_each_number_is_the_least_sum_of_the_words_from_there(self):
        for words in word_lists([1, 2, 4], 5):
            for width in [4, 5, 6, 7, 9, 30]:
                table = table_of(words, width)
                self.assertEqual(len(table), len(words) + 1)
                self.assertEqual(table[-1], 0)
                for place in range(len(words)):
                    left = words[place:]
                    sums = [sum_by_hand(left, width, starts) for starts in fitting_starts(left, width)]
                    self.assertEqual(table[place], min(sums))

    def test_two_thousand_words(self):
        words = many_words(2000)
        size = len(" ".join(words))
        for width in [9, 20, 72]:
            self.check(words, width, table_of(words, width))
        for width in [size, size + 1, FAR_ABOVE]:
            self.assertTrue(table_of(words, width) == [0] * 2001)
        # Only the last word is left to a second line.
        table = table_of(words, size - 1)
        self.assertEqual(table[0], len(words[-1]) ** 2)
        self.assertTrue(table[1:] == [0] * 2000)

    def check(self, words, width, table):
        """Each number is no more than what any line leads to, and just that of one of them."""
        self.assertEqual(len(table), len(words) + 1)
        self.assertEqual(table[-1], 0)
        for begin in range(len(words)):
            sums, size = [], len(words[begin])
            end = begin + 1
            while size <= width:
                counts = 0 if end == len(words) else (width - size) ** 2
                sums.append(counts + table[end])
                if end == len(words):
                    break
                size += 1 + len(words[end])
                end += 1
            self.assertEqual(table[begin], min(sums))

    def test_half_of_two_thousand_words_in_a_line(self):
        self.assertEqual(table_of(["x"] * 2000, 1999)[:3], [0, 0, 0])
        self.assertEqual(table_of(["x"] * 2000, 1998)[:3], [2, 2, 1])

    def test_a_few_more_words_than_the_limit_are_no_fault(self):
        self.assertTrue(table_of(["x"] * 2100, 1) == [0] * 2101)

    def test_each_list_is_a_new_one(self):
        first = table_of(UNEVEN, 6)
        first[0] = 99
        first.append(1)
        self.assertEqual(table_of(UNEVEN, 6), [10, 1, 16, 0, 0])
        self.assertIsNot(table_of([], 1), table_of([], 1))


class BestStartsTest(unittest.TestCase):
    def test_the_least_sum(self):
        self.assertEqual(best_starts(UNEVEN, 6), [0, 1, 3])
        self.assertEqual(best_starts(VERSE, 10), [0, 2, 4, 6])
        self.assertEqual(best_starts(VERSE, 12), [0, 2, 4, 7])

    def test_of_several_those_with_long_first_lines(self):
        for starts in [[0, 1, 3, 5], [0, 2, 3, 5], [0, 2, 4, 5]]:
            self.assertEqual(sum_by_hand(TIES, 4, starts), 9)
        self.assertEqual(table_of(TIES, 4)[0], 9)
        self.assertEqual(best_starts(TIES, 4), [0, 2, 4, 5])

    def test_of_two_the_one_whose_first_line_has_more_words(self):
        words = ["a", "bb", "c", "ddd"]
        for starts in [[0, 1, 3], [0, 2, 3]]:
            self.assertEqual(sum_by_hand(words, 4, starts), 9)
        self.assertEqual(best_starts(words, 4), [0, 2, 3])

    def test_of_two_the_one_whose_second_line_has_more_words(self):
        for starts in [[0, 2, 3, 5, 7], [0, 2, 4, 5, 7]]:
            self.assertEqual(sum_by_hand(VERSE, 9, starts), 25)
        self.assertEqual(best_starts(VERSE, 9), [0, 2, 4, 5, 7])

    def test_no_words_and_one(self):
        self.assertEqual(best_starts([], 1), [])
        self.assertEqual(best_starts([], FAR_ABOVE), [])
        self.assertEqual(best_starts(["word"], 4), [0])
        self.assertEqual(best_starts(["word"], 99), [0])

    def test_a_width_of_one(self):
        self.assertEqual(best_starts(["a", "b", "c"], 1), [0, 1, 2])

    def test_a_width_of_just_the_longest_word(self):
        self.assertEqual(best_starts(UNEVEN, 5), [0, 1, 3])
        self.assertEqual(best_starts(["a", "long", "b"], 4), [0, 1, 2])

    def test_a_width_of_just_a_lines_size(self):
        self.assertEqual(best_starts(["ab", "cd"], 5), [0])
        self.assertEqual(best_starts(["ab", "cd"], 4), [0, 1])
        self.assertEqual(best_starts(VERSE, 41), [0])
        self.assertEqual(best_starts(VERSE, 40), [0, 8])

    def test_a_width_far_above(self):
        self.assertEqual(best_starts(VERSE, FAR_ABOVE), [0])

    def test_against_a_search_through_all_starts(self):
        for words in word_lists([1, 2, 4], 6):
            for width in [4, 5, 6, 7, 9, 12, 30]:
                found = fitting_starts(words, width)
                self.assertEqual(best_starts(words, width), best_by_search(words, width, found))

    def test_longer_lists_against_a_search_through_all_starts(self):
        for begin in range(0, 60, 6):
            words = many_words(80)[begin:begin + 11]
            for width in [9, 14, 23]:
                found = fitting_starts(words, width)
                self.assertEqual(best_starts(words, width), best_by_search(words, width, found))

    def test_two_thousand_words(self):
        words = many_words(2000)
        size = len(" ".join(words))
        for width in [9, 20, 72]:
            starts = best_starts(words, width)
            sizes = sizes_by_hand(words, dict.fromkeys(starts))
            self.assertLessEqual(max(sizes), width)
            self.assertEqual(sum((width - k) ** 2 for k in sizes[:-1]), table_of(words, width)[0])
        for width in [size, size + 1, FAR_ABOVE]:
            self.assertEqual(best_starts(words, width), [0])
        self.assertEqual(best_starts(words, size - 1), [0, 1999])

    def test_two_thousand_words_as_many_as_fit(self):
        self.assertTrue(best_starts(["x"] * 2000, 3) == list(range(0, 2000, 2)))
        self.assertTrue(best_starts(["x"] * 2000, 1) == list(range(2000)))

    def test_a_few_more_words_than_the_limit_are_no_fault(self):
        self.assertTrue(best_starts(["x"] * 2100, 3) == list(range(0, 2100, 2)))

    def test_each_list_is_a_new_one(self):
        first = best_starts(UNEVEN, 6)
        first.append(99)
        self.assertEqual(best_starts(UNEVEN, 6), [0, 1, 3])
        nothing = []
        self.assertIsNot(best_starts(nothing, 5), nothing)
        self.assertIsNot(best_starts(nothing, 5), best_starts(nothing, 5))


if __name__ == "__main__":
    unittest.main()
