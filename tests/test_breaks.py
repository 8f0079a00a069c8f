"""textwrapper/breaks.py: points 1, 6, 7 and 10, and the refusals of point 8."""

import unittest

from samples import (
    BAD_WIDTHS, FAR_ABOVE, VERSE, all_starts, bad_starts, fitting_starts, many_words,
    sizes_by_hand, sum_by_hand, word_lists,
)
from textwrapper.breaks import lines_of, quick_starts, sum_of
from textwrapper.errors import LongWord, NoStarts, NoWidth, TooWide

WORDS = ["a", "bb", "ccc", "dddd"]


class LinesOfTest(unittest.TestCase):
    def test_lines_reach_up_to_the_next_start(self):
        self.assertEqual(lines_of(WORDS, [0, 2]), ["a bb", "ccc dddd"])
        self.assertEqual(lines_of(WORDS, [0, 1, 3]), ["a", "bb ccc", "dddd"])

    def test_the_last_line_has_all_that_are_left(self):
        self.assertEqual(lines_of(WORDS, [0, 1]), ["a", "bb ccc dddd"])

    def test_one_line_and_one_word_each(self):
        self.assertEqual(lines_of(WORDS, [0]), ["a bb ccc dddd"])
        self.assertEqual(lines_of(WORDS, [0, 1, 2, 3]), WORDS)

    def test_one_word(self):
        self.assertEqual(lines_of(["word"], [0]), ["word"])

    def test_no_words(self):
        self.assertEqual(lines_of([], []), [])

    def test_all_starts_of_few_words(self):
        for count in range(7):
            words = many_words(count)
            for starts in all_starts(count):
                lines = lines_of(words, starts)
                self.assertEqual([len(line) for line in lines], sizes_by_hand(words, starts))
                self.assertEqual(" ".join(lines), " ".join(words))

    def test_what_are_no_starts_is_refused(self):
        for words in [WORDS, VERSE, []]:
            for starts in bad_starts(len(words)):
                with self.subTest(words=len(words), starts=len(starts)):
                    with self.assertRaises(NoStarts):
                        lines_of(words, starts)

    def test_of_one_word_only_nought_starts_a_line(self):
        for starts in [[], [1], [-1], [0, 0], [0, 1], [0, -1]]:
            with self.assertRaises(NoStarts):
                lines_of(["word"], starts)

    def test_two_thousand_words(self):
        words = many_words(2000)
        self.assertTrue(lines_of(words, list(range(2000))) == words)
        self.assertTrue(lines_of(words, [0]) == [" ".join(words)])
        for starts in bad_starts(2000):
            with self.assertRaises(NoStarts):
                lines_of(words, starts)

    def test_what_is_handed_in_stays(self):
        words, starts = list(WORDS), [0, 2, 3]
        lines_of(words, starts)
        self.assertEqual((words, starts), (WORDS, [0, 2, 3]))
        starts = [0, 2, 1]
        with self.assertRaises(NoStarts):
            lines_of(words, starts)
        self.assertEqual((words, starts), (WORDS, [0, 2, 1]))

    def test_each_list_is_a_new_one(self):
        words = ["a", "b"]
        lines = lines_of(words, [0, 1])
        self.assertIsNot(lines, words)
        lines.append("more")
        self.assertEqual(words, ["a", "b"])
        self.assertEqual(lines_of(words, [0, 1]), ["a", "b"])
        nothing, starts = [], []
        told = lines_of(nothing, starts)
        self.assertIsNot(told, nothing)
        self.assertIsNot(told, starts)
        self.assertIsNot(told, lines_of(nothing, starts))


class SumOfTest(unittest.TestCase):
    def test_squares_of_all_gaps_but_the_last(self):
        self.assertEqual(sum_of(WORDS, 8, [0, 2]), 16)
        self.assertEqual(sum_of(WORDS, 8, [0, 1, 3]), 49 + 4)
        self.assertEqual(sum_of(WORDS, 10, [0, 1, 2, 3]), 81 + 64 + 49)

    def test_one_line_or_none_counts_nothing(self):
        self.assertEqual(sum_of(WORDS, 100, [0]), 0)
        self.assertEqual(sum_of(["word"], 9, [0]), 0)
        self.assertEqual(sum_of([], 9, []), 0)
        self.assertEqual(sum_of([], 1, []), 0)

    def test_a_line_just_as_wide_fits_and_has_no_gap(self):
        self.assertEqual(sum_of(["ab", "cd", "ef"], 5, [0, 2]), 0)
        self.assertEqual(sum_of(["ab", "cd", "ef"], 5, [0, 1]), 9)
        self.assertEqual(sum_of(["ab", "cd"], 5, [0]), 0)

    def test_a_width_of_one(self):
        self.assertEqual(sum_of(["a", "b", "c"], 1, [0, 1, 2]), 0)
        self.assertEqual(sum_of(["a"], 1, [0]), 0)
        with self.assertRaises(TooWide):
            sum_of(["a", "b"], 1, [0])

    def test_widths_of_any_size(self):
        self.assertEqual(sum_of(["a", "b"], FAR_ABOVE, [0, 1]), (FAR_ABOVE - 1) ** 2)

    def test_all_starts_of_few_words(self):
        for words in word_lists([1, 2, 4], 5):
            for width in [1, 3, 4, 7, 30]:
                for starts in all_starts(len(words)):
                    self.check(words, width, starts)

    def check(self, words, width, starts):
        sizes = sizes_by_hand(words, starts)
        if max(sizes, default=0) > width:
            with self.assertRaises(TooWide):
                sum_of(words, width, starts)
        else:
            self.assertEqual(sum_of(words, width, starts), sum_by_hand(words, width, starts))

    def test_lines_that_do_not_fit_are_refused(self):
        for starts in [[0, 3], [0, 1], [0]]:
            with self.assertRaises(TooWide):
                sum_of(WORDS, 7, starts)
        with self.assertRaises(TooWide):
            sum_of(["a", "bb", "cc", "d"], 4, [0, 1, 3])

    def test_a_last_line_that_does_not_fit_is_refused(self):
        with self.assertRaises(TooWide):
            sum_of(["a", "bb", "cc"], 4, [0, 1])
        with self.assertRaises(TooWide):
            sum_of(["word"], 3, [0])

    def test_a_long_word_makes_its_line_too_wide(self):
        for starts in all_starts(3):
            with self.assertRaises(TooWide):
                sum_of(["a", "long", "b"], 3, starts)

    def test_a_width_below_one_is_refused_first(self):
        for width in BAD_WIDTHS:
            for words in [[], WORDS]:
                for starts in [[], [0], *bad_starts(len(words))]:
                    with self.assertRaises(NoWidth):
                        sum_of(words, width, starts)

    def test_no_starts_are_refused_ahead_of_wide_lines(self):
        for words in [WORDS, []]:
            for starts in bad_starts(len(words)):
                for width in [1, 3, 100]:
                    with self.assertRaises(NoStarts):
                        sum_of(words, width, starts)

    def test_two_thousand_words(self):
        words = many_words(2000)
        expected = sum((12 - len(word)) ** 2 for word in words[:-1])
        self.assertEqual(sum_of(words, 12, list(range(2000))), expected)
        self.assertEqual(sum_of(words, len(" ".join(words)), [0]), 0)
        with self.assertRaises(TooWide):
            sum_of(words, len(" ".join(words)) - 1, [0])

    def test_what_is_handed_in_stays(self):
        words, starts = list(WORDS), [0, 2]
        sum_of(words, 8, starts)
        with self.assertRaises(TooWide):
            sum_of(words, 7, starts)
        with self.assertRaises(NoWidth):
            sum_of(words, 0, starts)
        self.assertEqual((words, starts), (WORDS, [0, 2]))
        starts = [2, 0]
        with self.assertRaises(NoStarts):
            sum_of(words, 8, starts)
        self.assertEqual((words, starts), (WORDS, [2, 0]))


class QuickStartsTest(unittest.TestCase):
    def test_each_line_takes_as_many_words_as_fit(self):
        self.assertEqual(quick_starts(VERSE, 10), [0, 2, 4, 6])
        self.assertEqual(quick_starts(WORDS, 4), [0, 2, 3])
        self.assertEqual(quick_starts(["a", "b", "c", "d"], 3), [0, 2])

    def test_a_line_just_as_wide_fits(self):
        self.assertEqual(quick_starts(["ab", "cd"], 5), [0])
        self.assertEqual(quick_starts(["ab", "cd"], 4), [0, 1])
        self.assertEqual(quick_starts(VERSE, 41), [0])
        self.assertEqual(quick_starts(VERSE, 40), [0, 8])

    def test_one_word_and_none(self):
        self.assertEqual(quick_starts(["word"], 4), [0])
        self.assertEqual(quick_starts(["word"], 99), [0])
        self.assertEqual(quick_starts([], 1), [])
        self.assertEqual(quick_starts([], FAR_ABOVE), [])

    def test_a_width_of_one(self):
        self.assertEqual(quick_starts(["a", "b", "c"], 1), [0, 1, 2])

    def test_widths_of_any_size(self):
        self.assertEqual(quick_starts(VERSE, FAR_ABOVE), [0])

    def test_against_all_starts_whose_lines_fit(self):
        for words in word_lists([1, 2, 4], 6):
            for width in [4, 5, 6, 9]:
                self.check(quick_starts(words, width), fitting_starts(words, width))

    def check(self, quick, fitting):
        self.assertIn(quick, fitting)
        for other in fitting:
            self.assertLessEqual(len(quick), len(other))
            for ours, theirs in zip(quick, other):
                self.assertGreaterEqual(ours, theirs)

    def test_a_width_below_one_is_refused_first(self):
        for width in BAD_WIDTHS:
            for words in [[], ["a"], VERSE]:
                with self.assertRaises(NoWidth):
                    quick_starts(words, width)

    def test_a_long_word_is_refused(self):
        for words in [["long"], ["long", "a"], ["a", "long"], ["a", "long", "b"]]:
            with self.assertRaises(LongWord):
                quick_starts(words, 3)
            self.assertEqual(quick_starts(words, 4), list(range(len(words))))
        with self.assertRaises(LongWord):
            quick_starts(["aa"], 1)

    def test_two_thousand_words(self):
        words = many_words(2000)
        for width in [9, 20, 72, 1000]:
            starts = quick_starts(words, width)
            sizes = sizes_by_hand(words, dict.fromkeys(starts))
            self.assertLessEqual(max(sizes), width)
            for size, place in zip(sizes, starts[1:]):
                self.assertGreater(size + 1 + len(words[place]), width)
        self.assertTrue(quick_starts(["x"] * 2000, 3) == list(range(0, 2000, 2)))
        with self.assertRaises(LongWord):
            quick_starts(words[:1999] + ["x" * 73], 72)

    def test_a_few_more_words_than_the_limit_are_no_fault(self):
        self.assertTrue(quick_starts(["x"] * 2100, 3) == list(range(0, 2100, 2)))
        self.assertTrue(lines_of(["x"] * 2100, list(range(2100))) == ["x"] * 2100)

    def test_words_stay_as_they_were(self):
        words = list(VERSE)
        quick_starts(words, 10)
        with self.assertRaises(LongWord):
            quick_starts(words, 3)
        with self.assertRaises(NoWidth):
            quick_starts(words, 0)
        self.assertEqual(words, VERSE)

    def test_each_list_is_a_new_one(self):
        first = quick_starts(VERSE, 10)
        first.append(99)
        self.assertEqual(quick_starts(VERSE, 10), [0, 2, 4, 6])
        nothing = []
        self.assertIsNot(quick_starts(nothing, 5), nothing)
        self.assertIsNot(quick_starts(nothing, 5), quick_starts(nothing, 5))


if __name__ == "__main__":
    unittest.main()
