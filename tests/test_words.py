"""textwrapper/words.py: points 1 to 3."""

import unittest

from samples import WORDLESS, many_words, short_texts
from textwrapper.words import is_word, paragraphs_of, words_of

SIGNS = "".join(chr(code) for code in range(33, 127) if chr(code) != "%")


def words_by_hand(text):
    """The words of a text, sign by sign."""
    words, word = [], ""
    for sign in text + "\n":
        if sign in " \n":
            if word != "":
                words.append(word)
            word = ""
        else:
            word += sign
    return words


def paragraphs_by_hand(text):
    """The paragraphs of a text: rows gathered until one without words comes."""
    paragraphs, gathered = [], []
    for row in text.split("\n") + [""]:
        if row.strip(" ") != "":
            gathered.append(row)
        elif gathered:
            paragraphs.append(words_by_hand(" ".join(gathered)))
            gathered = []
    return paragraphs


class WordsOfTest(unittest.TestCase):
    def test_ordinary_texts(self):
        self.assertEqual(words_of("one two, three"), ["one", "two,", "three"])
        self.assertEqual(words_of("one\ntwo three\n\nfour"), ["one", "two", "three", "four"])

    def test_blanks_and_line_ends_around_and_between(self):
        self.assertEqual(words_of("  one \n\n  two   three\n "), ["one", "two", "three"])

    def test_one_word(self):
        self.assertEqual(words_of("one"), ["one"])
        self.assertEqual(words_of("x"), ["x"])

    def test_equal_words_are_all_told(self):
        self.assertEqual(words_of("b a b a a"), ["b", "a", "b", "a", "a"])

    def test_texts_without_words(self):
        for text in WORDLESS:
            with self.subTest(text=text):
                self.assertEqual(words_of(text), [])

    def test_every_sign_belongs_to_a_word(self):
        self.assertEqual(words_of(SIGNS), [SIGNS])
        self.assertEqual(words_of(" ".join(SIGNS)), list(SIGNS))

    def test_all_short_texts(self):
        for text in short_texts():
            self.assertEqual(words_of(text), words_by_hand(text), text)

    def test_two_thousand_words(self):
        words = many_words(2000)
        self.assertTrue(words_of(" ".join(words)) == words)
        self.assertTrue(words_of("\n \n".join(words)) == words)

    def test_each_list_is_a_new_one(self):
        for text in ["one two", ""]:
            first = words_of(text)
            second = words_of(text)
            self.assertIsNot(first, second)
            first.append("more")
            self.assertEqual(words_of(text), second)


class IsWordTest(unittest.TestCase):
    def test_words(self):
        for text in ["a", "word", "two,", "-", "~", "!", SIGNS, "x" * 5000]:
            with self.subTest(text=text):
                self.assertIs(is_word(text), True)

    def test_every_sign_alone_is_a_word(self):
        for sign in SIGNS:
            self.assertIs(is_word(sign), True, sign)

    def test_no_words(self):
        for text in ["a b", " a", "a ", "a\nb", "\na", "a\n", "a  b", " a ", *WORDLESS]:
            with self.subTest(text=text):
                self.assertIs(is_word(text), False)

    def test_all_short_texts(self):
        for text in short_texts():
            expected = text != "" and " " not in text and "\n" not in text
            self.assertIs(is_word(text), expected, text)


class ParagraphsOfTest(unittest.TestCase):
    def test_neighbouring_rows_are_one_paragraph(self):
        self.assertEqual(paragraphs_of("one two\nthree"), [["one", "two", "three"]])

    def test_rows_without_words_part_paragraphs(self):
        self.assertEqual(paragraphs_of("one\n\ntwo"), [["one"], ["two"]])
        self.assertEqual(paragraphs_of("one\n  \ntwo"), [["one"], ["two"]])

    def test_several_rows_without_words_part_as_one_does(self):
        self.assertEqual(paragraphs_of("one\n\n \n\ntwo\n\n\nthree"), [["one"], ["two"], ["three"]])

    def test_rows_without_words_at_the_ends(self):
        self.assertEqual(paragraphs_of("\n\none\n\n"), [["one"]])
        self.assertEqual(paragraphs_of(" \none\ntwo\n "), [["one", "two"]])

    def test_blanks_in_rows(self):
        self.assertEqual(paragraphs_of("  one   two \n three"), [["one", "two", "three"]])

    def test_one_row_and_one_word(self):
        self.assertEqual(paragraphs_of("one two"), [["one", "two"]])
        self.assertEqual(paragraphs_of("one"), [["one"]])

    def test_equal_paragraphs_are_all_told(self):
        self.assertEqual(paragraphs_of("a\n\na\n\na a"), [["a"], ["a"], ["a", "a"]])

    def test_texts_without_words_have_none(self):
        for text in WORDLESS:
            with self.subTest(text=text):
                self.assertEqual(paragraphs_of(text), [])

    def test_all_short_texts(self):
        for text in short_texts():
            self.assertEqual(paragraphs_of(text), paragraphs_by_hand(text), text)

    def test_two_thousand_words(self):
        words = many_words(2000)
        self.assertTrue(paragraphs_of("\n".join(words)) == [words])
        self.assertTrue(paragraphs_of("\n\n".join(words)) == [[word] for word in words])

    def test_each_list_is_a_new_one(self):
        first = paragraphs_of("a\n\na")
        first[0].append("more")
        first.append(["more"])
        self.assertEqual(first[1], ["a"])
        self.assertEqual(paragraphs_of("a\n\na"), [["a"], ["a"]])
        self.assertIsNot(paragraphs_of(""), paragraphs_of(""))


if __name__ == "__main__":
    unittest.main()
