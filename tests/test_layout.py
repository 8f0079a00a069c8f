"""textwrapper/layout.py: points 1 and 12 to 14."""

import unittest
from itertools import product

from samples import (
    BAD_WIDTHS, FAR_ABOVE, FAR_BELOW, VERSE, WORDLESS, best_by_search, fitting_starts, many_words,
    short_texts, word_lists,
)
from textwrapper.errors import LongWord, NoWidth, TooWide
from textwrapper.layout import spread_line, squared, wrapped
from textwrapper.words import paragraphs_of, words_of

TEXT = """
  the quick brown
fox jumps over

a lazy   dog
 \x20

slept
"""
LONG_TEXTS = ["long", "long a", "a long", "a\nlong", "a\n\nlong", "long\n\na", "a\n\n b long\n\nc"]
BOTH = [wrapped, squared]


def lines_by_search(words, width):
    """The lines of a paragraph by its best starts, each a list of words."""
    starts = best_by_search(words, width, fitting_starts(words, width))
    return [words[begin:end] for begin, end in zip(starts, starts[1:] + [len(words)])]


def spread_by_hand(words, width):
    """The line with blanks added one by one, at the first place that has fewest."""
    blanks = [1] * (len(words) - 1)
    while blanks and sum(blanks) + len("".join(words)) < width:
        blanks[blanks.index(min(blanks))] += 1
    return "".join(word + " " * many for word, many in zip(words, [*blanks, 0]))


def paragraph_lists():
    """Lists of up to three paragraphs of some words."""
    some = [words for words in word_lists([1, 3], 3) if words]
    for count in range(3):
        for row in product(some, repeat=count):
            yield list(row)


class RefusalsTest(unittest.TestCase):
    def test_a_width_below_one_is_refused_first(self):
        for function in BOTH:
            for width in BAD_WIDTHS:
                for text in [*WORDLESS, *LONG_TEXTS, TEXT]:
                    with self.assertRaises(NoWidth):
                        function(text, width)

    def test_a_long_word_is_refused_wherever_it_stands(self):
        for function in BOTH:
            for text in LONG_TEXTS:
                for width in [1, 3]:
                    with self.assertRaises(LongWord):
                        function(text, width)
                self.assertEqual(words_of(function(text, 4)), words_of(text))


class WrappedTest(unittest.TestCase):
    def test_paragraphs_are_broken_by_their_best_starts(self):
        self.assertEqual(
            wrapped(TEXT, 11),
            "the quick\nbrown fox\njumps over\n\na lazy dog\n\nslept",
        )
        self.assertEqual(wrapped("aaa bb cc ddddd", 6), "aaa\nbb cc\nddddd")
        self.assertEqual(wrapped("a bb c dd e fff", 4), "a bb\nc dd\ne\nfff")

    def test_one_line(self):
        self.assertEqual(wrapped("  one\n two ", 7), "one two")
        self.assertEqual(wrapped("one two", 6), "one\ntwo")
        self.assertEqual(wrapped("one", 3), "one")

    def test_texts_without_words(self):
        for text in WORDLESS:
            for width in [1, 80, FAR_ABOVE]:
                self.assertEqual(wrapped(text, width), "")

    def test_a_width_of_one(self):
        self.assertEqual(wrapped("a b\nc\n\nd", 1), "a\nb\nc\n\nd")

    def test_a_width_far_above(self):
        self.assertEqual(
            wrapped(TEXT, FAR_ABOVE),
            "the quick brown fox jumps over\n\na lazy dog\n\nslept",
        )

    def test_against_a_search_through_all_starts(self):
        for paragraphs in paragraph_lists():
            for width in [3, 4, 5, 7, 20]:
                text = "\n \n".join("\n".join(words) for words in paragraphs)
                expected = "\n\n".join(
                    "\n".join(" ".join(line) for line in lines_by_search(words, width))
                    for words in paragraphs
                )
                self.assertEqual(wrapped(text, width), expected)

    def test_all_short_texts(self):
        for text in short_texts():
            if "aaaa" not in text:
                self.check(text, 3)
            self.check(text, 7)

    def check(self, text, width):
        """The paragraphs are those of the text, the lines fit, and wrapped again it stays."""
        told = wrapped(text, width)
        self.assertEqual(paragraphs_of(told), paragraphs_of(text))
        self.assertLessEqual(max(len(line) for line in told.split("\n")), width)
        self.assertEqual(wrapped(told, width), told)

    def test_wrapped_again_it_stays_by_every_width(self):
        for width in range(5, 45):
            for text in [TEXT, " ".join(VERSE), "\n\n".join(VERSE), " \n".join(VERSE * 3)]:
                self.check(text, width)

    def test_two_thousand_words(self):
        words = many_words(2000)
        for text in [" ".join(words), "\n".join(words), "\n\n".join(words)]:
            for width in [9, 72]:
                told = wrapped(text, width)
                self.assertTrue(wrapped(told, width) == told)
                self.assertTrue(paragraphs_of(told) == paragraphs_of(text))
                self.assertLessEqual(max(len(line) for line in told.split("\n")), width)
        self.assertTrue(wrapped("\n".join(words), FAR_ABOVE) == " ".join(words))
        self.assertTrue(wrapped("\n \n\n".join(words), FAR_ABOVE) == "\n\n".join(words))


class SquaredTest(unittest.TestCase):
    def test_lines_but_the_last_are_spread(self):
        self.assertEqual(
            squared(TEXT, 11),
            "the   quick\nbrown   fox\njumps over\n\na lazy dog\n\nslept",
        )
        self.assertEqual(squared("aaa bb cc ddddd", 6), "aaa\nbb  cc\nddddd")
        self.assertEqual(squared("a b c d eeee f", 8), "a  b c d\neeee f")

    def test_the_last_line_of_each_paragraph_stays(self):
        self.assertEqual(squared("one two\n\nthree four", 12), "one two\n\nthree four")
        self.assertEqual(squared("a b c d\n\ne f g h", 4), "a  b\nc d\n\ne  f\ng h")

    def test_texts_without_words(self):
        for text in WORDLESS:
            for width in [1, 80, FAR_ABOVE]:
                self.assertEqual(squared(text, width), "")

    def test_a_width_of_one(self):
        self.assertEqual(squared("a b\nc\n\nd", 1), "a\nb\nc\n\nd")

    def test_a_width_far_above(self):
        self.assertEqual(
            squared(TEXT, FAR_ABOVE),
            "the quick brown fox jumps over\n\na lazy dog\n\nslept",
        )

    def test_against_a_search_through_all_starts(self):
        for paragraphs in paragraph_lists():
            for width in [3, 4, 5, 7, 20]:
                text = "\n \n".join("\n".join(words) for words in paragraphs)
                self.assertEqual(squared(text, width), self.by_hand(paragraphs, width))

    def by_hand(self, paragraphs, width):
        told = []
        for words in paragraphs:
            *lines, last = lines_by_search(words, width)
            told.append([spread_by_hand(line, width) for line in lines] + [" ".join(last)])
        return "\n\n".join("\n".join(lines) for lines in told)

    def test_spread_lines_have_as_many_signs_as_the_width_tells(self):
        texts = [TEXT, " ".join(VERSE), "\n\n".join(VERSE), " ".join(many_words(2000))]
        for text in texts:
            for width in [9, 10, 15, 24, 33]:
                self.check(text, width)

    def check(self, text, width):
        told = squared(text, width)
        plain = wrapped(text, width)
        self.assertTrue(wrapped(told, width) == plain)
        for square, paragraph in zip(told.split("\n\n"), plain.split("\n\n"), strict=True):
            *lines, last = paragraph.split("\n")
            *spread, same = square.split("\n")
            self.assertEqual(same, last)
            for ours, line in zip(spread, lines, strict=True):
                self.assertEqual(words_of(ours), words_of(line))
                self.assertEqual(len(ours), width if " " in line else len(line))


class SpreadLineTest(unittest.TestCase):
    def test_equally_many_blanks_or_one_more_at_the_first_places(self):
        self.assertEqual(spread_line(["a", "b"], 5), "a   b")
        self.assertEqual(spread_line(["a", "b", "c"], 7), "a  b  c")
        self.assertEqual(spread_line(["a", "b", "c"], 8), "a   b  c")
        self.assertEqual(spread_line(["a", "b", "c", "d"], 8), "a  b c d")
        self.assertEqual(spread_line(["a", "b", "c", "d"], 9), "a  b  c d")
        self.assertEqual(spread_line(["a", "bb", "ccc", "dddd"], 20), "a    bb   ccc   dddd")

    def test_a_width_of_just_the_lines_size(self):
        self.assertEqual(spread_line(["a", "bb", "c"], 6), "a bb c")
        self.assertEqual(spread_line(VERSE, 41), " ".join(VERSE))

    def test_one_word_stays_as_it_is(self):
        for width in [4, 5, 80, FAR_ABOVE]:
            self.assertEqual(spread_line(["word"], width), "word")
        self.assertEqual(spread_line(["a"], 1), "a")

    def test_no_words(self):
        for width in [1, 2, 80, FAR_ABOVE]:
            self.assertEqual(spread_line([], width), "")

    def test_every_width_against_blanks_added_one_by_one(self):
        for words in [*word_lists([1, 3], 5), VERSE]:
            size = len(" ".join(words))
            for width in range(max(size, 1), size + 20):
                told = spread_line(words, width)
                self.assertEqual(told, spread_by_hand(words, width))
                self.assertEqual(len(told), width if len(words) > 1 else size)

    def test_two_thousand_words(self):
        words = many_words(2000)
        size = len(" ".join(words))
        self.assertTrue(spread_line(words, size) == " ".join(words))
        self.assertTrue(spread_line(words, size + 1) == words[0] + "  " + " ".join(words[1:]))
        self.assertTrue(spread_line(words, size + 1999) == "  ".join(words))
        self.assertEqual(len(spread_line(words, 10 ** 6)), 10 ** 6)
        with self.assertRaises(TooWide):
            spread_line(words, size - 1)

    def test_a_width_below_one_is_refused_first(self):
        for width in BAD_WIDTHS:
            for words in [[], ["a"], ["long", "words"]]:
                with self.assertRaises(NoWidth):
                    spread_line(words, width)

    def test_a_line_that_does_not_fit_is_refused(self):
        for words, width in [(["word"], 3), (["a", "b"], 2), (["a", "b"], 1), (VERSE, 40), (VERSE, 1)]:
            with self.assertRaises(TooWide):
                spread_line(words, width)

    def test_words_stay_as_they_were(self):
        words = list(VERSE)
        spread_line(words, 50)
        for width in [40, 0, FAR_BELOW]:
            with self.assertRaises(ValueError):
                spread_line(words, width)
        self.assertEqual(words, VERSE)


if __name__ == "__main__":
    unittest.main()
