"""textwrapper/page.py: points 1 and 15 to 17."""

import unittest
from itertools import product

from samples import BAD_WIDTHS, FAR_ABOVE, FAR_BELOW, VERSE, many_words
from textwrapper.breaks import lines_of
from textwrapper.errors import Full, LongWord, NoPlace, NoWayBack, NoWidth, NoWord, WrapError
from textwrapper.least import best_starts, table_of
from textwrapper.page import MOST_WORDS, Page

NO_WORDS = ["", " ", "\n", "a b", "a\nb", " a", "a ", "\na", "a\n", "much too long"]
BAD_PLACES = [-1, -2, FAR_BELOW, FAR_ABOVE]
DEEDS = [
    ("put", 0, "a"), ("put", 1, "bbb"), ("put", 0, "a b"), ("drop", 0), ("drop", 1),
    ("widen", 2), ("widen", 3), ("widen", 0), ("undo",),
]


def page_of(words, width):
    """A page that these words were put on, one behind the other."""
    page = Page(width)
    for place, word in enumerate(words):
        page.put(place, word)
    return page


def after(state, deed):
    """The words and the width after a deed that is done to this page, or its refusal."""
    words, width = state
    name, *told = deed
    if name == "put":
        at, word = told
        if at > len(words):
            return NoPlace
        if " " in word:
            return NoWord
        return (words[:at] + [word] + words[at:], width) if len(word) <= width else LongWord
    if name == "drop":
        at = told[0]
        return (words[:at] + words[at + 1:], width) if at < len(words) else NoPlace
    if told[0] < 1:
        return NoWidth
    return LongWord if max(map(len, words), default=0) > told[0] else (words, told[0])


class PageCase(unittest.TestCase):
    def assert_page(self, page, words, width):
        """The page tells these words and width, and what follows from them."""
        self.assertEqual(page.words_now(), words)
        self.assertEqual(page.width_now(), width)
        self.assertEqual(page.table_now(), table_of(words, width))
        self.assertEqual(page.starts_now(), best_starts(words, width))
        self.assertEqual(page.lines_now(), lines_of(words, best_starts(words, width)))

    def assert_refused(self, refusal, page, name, *told):
        """The deed is refused with just this refusal, and changes nothing."""
        words, width = page.words_now(), page.width_now()
        with self.assertRaises(refusal):
            getattr(page, name)(*told)
        self.assertEqual(page.words_now(), words)
        self.assertEqual(page.width_now(), width)


class NewPageTest(PageCase):
    def test_it_has_a_width_and_no_words(self):
        for width in [1, 7, FAR_ABOVE]:
            page = Page(width)
            self.assertEqual(page.words_now(), [])
            self.assertEqual(page.width_now(), width)
            self.assertEqual(page.table_now(), [0])
            self.assertEqual(page.starts_now(), [])
            self.assertEqual(page.lines_now(), [])

    def test_a_width_below_one_is_refused(self):
        for width in BAD_WIDTHS:
            with self.assertRaises(NoWidth):
                Page(width)

    def test_no_deed_was_done(self):
        self.assert_refused(NoWayBack, Page(5), "undo")

    def test_pages_are_apart(self):
        one, other = Page(5), Page(6)
        one.put(0, "a")
        self.assert_page(one, ["a"], 5)
        self.assert_page(other, [], 6)
        self.assert_refused(NoWayBack, other, "undo")
        one.undo()
        self.assert_page(one, [], 5)


class PutTest(PageCase):
    def test_ahead_of_the_word_at_a_place_or_behind_all(self):
        page = Page(5)
        for at, word in [(0, "b"), (0, "a"), (2, "d"), (2, "c"), (4, "e")]:
            self.assertIsNone(page.put(at, word))
        self.assert_page(page, ["a", "b", "c", "d", "e"], 5)

    def test_other_places_are_refused(self):
        page = Page(5)
        for words in [[], ["a"], ["a", "b"]]:
            for at in [*BAD_PLACES, len(words) + 1, len(words) + 2]:
                self.assert_refused(NoPlace, page, "put", at, "x")
            page.put(len(words), "ab"[len(words) % 2])
        self.assert_page(page, ["a", "b", "a"], 5)

    def test_what_is_no_word_is_refused(self):
        for page in [Page(5), page_of(["a", "b"], 5)]:
            for text in NO_WORDS:
                self.assert_refused(NoWord, page, "put", 0, text)

    def test_a_word_that_does_not_fit_is_refused(self):
        page = Page(4)
        self.assert_refused(LongWord, page, "put", 0, "longs")
        page.put(0, "long")
        self.assert_refused(LongWord, page, "put", 1, "longs")
        self.assert_page(page, ["long"], 4)
        self.assert_refused(LongWord, Page(1), "put", 0, "ab")

    def test_a_hundred_and_twenty_words_and_one_more(self):
        words = many_words(120)
        page = page_of(words, 20)
        self.assert_page(page, words, 20)
        for at in [0, 60, 120]:
            self.assert_refused(Full, page, "put", at, "a")
        self.assertEqual(page.drop(7), words[7])
        page.put(0, "again")
        self.assert_page(page, ["again", *words[:7], *words[8:]], 20)
        self.assert_refused(Full, page, "put", 0, "a")
        page.undo()
        page.put(119, "other")
        self.assert_page(page, [*words[:7], *words[8:], "other"], 20)
        self.assertEqual(MOST_WORDS, 120)

    def test_the_first_refusal_goes_first(self):
        full = page_of(["a"] * 120, 4)
        for at in [*BAD_PLACES, 121]:
            for text in [*NO_WORDS, "longs", "b"]:
                self.assert_refused(NoPlace, full, "put", at, text)
        for at in [*BAD_PLACES, 1]:
            for text in [*NO_WORDS, "longs"]:
                self.assert_refused(NoPlace, Page(4), "put", at, text)
        for page in [full, Page(4)]:
            for text in NO_WORDS:
                self.assert_refused(NoWord, page, "put", 0, text)
            self.assert_refused(LongWord, page, "put", 0, "longs")
        self.assert_refused(Full, full, "put", 120, "b")


class DropTest(PageCase):
    def test_the_word_is_dropped_and_told(self):
        page = page_of(["a", "b", "c", "b"], 5)
        self.assertEqual(page.drop(3), "b")
        self.assert_page(page, ["a", "b", "c"], 5)
        self.assertEqual(page.drop(0), "a")
        self.assertEqual(page.drop(1), "c")
        self.assertEqual(page.drop(0), "b")
        self.assert_page(page, [], 5)

    def test_other_places_are_refused(self):
        for words in [[], ["a"], ["a", "b", "c"]]:
            page = page_of(words, 5)
            for at in [*BAD_PLACES, len(words), len(words) + 1]:
                self.assert_refused(NoPlace, page, "drop", at)


class WidenTest(PageCase):
    def test_another_width(self):
        page = page_of(VERSE, 10)
        for width in [5, 41, 40, FAR_ABOVE, 9]:
            self.assertIsNone(page.widen(width))
            self.assert_page(page, VERSE, width)

    def test_a_width_below_one_is_refused_first(self):
        for words in [[], ["long"]]:
            for width in BAD_WIDTHS:
                self.assert_refused(NoWidth, page_of(words, 9), "widen", width)

    def test_a_width_that_some_word_does_not_fit_is_refused(self):
        for words in [["long"], ["a", "long"], ["long", "a"]]:
            page = page_of(words, 9)
            for width in [1, 3]:
                self.assert_refused(LongWord, page, "widen", width)
            page.widen(4)
            self.assert_page(page, words, 4)

    def test_a_word_that_was_dropped_does_not_count(self):
        page = page_of(["a", "long"], 9)
        page.drop(1)
        page.widen(1)
        self.assert_page(page, ["a"], 1)

    def test_the_width_now_tells_which_words_fit(self):
        page = Page(2)
        self.assert_refused(LongWord, page, "put", 0, "abc")
        page.widen(3)
        page.put(0, "abc")
        self.assert_page(page, ["abc"], 3)
        page.undo()
        page.undo()
        self.assert_refused(LongWord, page, "put", 0, "abc")


class UndoTest(PageCase):
    def test_each_deed_is_taken_back(self):
        page = page_of(["a", "b"], 5)
        page.drop(0)
        self.assertIsNone(page.undo())
        self.assert_page(page, ["a", "b"], 5)
        page.widen(9)
        page.undo()
        self.assert_page(page, ["a", "b"], 5)
        page.put(1, "x")
        page.undo()
        self.assert_page(page, ["a", "b"], 5)

    def test_until_nothing_is_left(self):
        page = page_of(["a", "b"], 5)
        page.widen(1)
        page.drop(0)
        for words, width in [(["a", "b"], 1), (["a", "b"], 5), (["a"], 5), ([], 5)]:
            page.undo()
            self.assert_page(page, words, width)
        for _ in range(3):
            self.assert_refused(NoWayBack, page, "undo")
        page.put(0, "c")
        page.undo()
        self.assert_refused(NoWayBack, page, "undo")

    def test_taking_back_is_no_deed(self):
        page = page_of(["a", "b", "c"], 5)
        page.undo()
        page.undo()
        self.assert_page(page, ["a"], 5)
        page.put(1, "x")
        page.undo()
        page.undo()
        self.assert_page(page, [], 5)
        self.assert_refused(NoWayBack, page, "undo")

    def test_a_deed_that_changes_nothing_is_one(self):
        page = page_of(["a"], 5)
        page.widen(5)
        page.undo()
        self.assert_page(page, ["a"], 5)
        page.undo()
        self.assert_page(page, [], 5)
        self.assert_refused(NoWayBack, page, "undo")

    def test_a_refused_deed_between_two_that_were_done(self):
        page = page_of(["a"], 5)
        self.refuse_all(page)
        page.put(1, "b")
        self.refuse_all(page)
        page.undo()
        self.assert_page(page, ["a"], 5)
        self.refuse_all(page)
        page.undo()
        self.assert_page(page, [], 5)
        self.assert_refused(NoWayBack, page, "undo")

    def refuse_all(self, page):
        self.assert_refused(NoPlace, page, "put", 9, "x")
        self.assert_refused(NoWord, page, "put", 0, "x y")
        self.assert_refused(LongWord, page, "put", 0, "longer")
        self.assert_refused(NoPlace, page, "drop", 9)
        self.assert_refused(NoWidth, page, "widen", 0)

    def test_refused_deeds_of_a_full_page_and_of_a_narrow_one(self):
        page = page_of(["ab"] * 120, 5)
        self.assert_refused(Full, page, "put", 0, "x")
        self.assert_refused(LongWord, page, "widen", 1)
        page.undo()
        self.assert_page(page, ["ab"] * 119, 5)

    def test_as_many_deeds_as_one_likes(self):
        page = Page(5)
        for width in range(1, 1001):
            page.widen(width)
        for width in range(999, 0, -1):
            page.undo()
            self.assertEqual(page.width_now(), width)
        page.undo()
        self.assert_page(page, [], 5)
        self.assert_refused(NoWayBack, page, "undo")


class TellingTest(PageCase):
    def test_what_a_page_tells(self):
        page = page_of(["aaa", "bb", "cc", "ddddd"], 6)
        self.assertEqual(page.words_now(), ["aaa", "bb", "cc", "ddddd"])
        self.assertEqual(page.width_now(), 6)
        self.assertEqual(page.table_now(), [10, 1, 16, 0, 0])
        self.assertEqual(page.starts_now(), [0, 1, 3])
        self.assertEqual(page.lines_now(), ["aaa", "bb cc", "ddddd"])

    def test_who_changes_a_told_list_changes_no_page(self):
        for words in [[], ["aaa", "bb", "cc", "ddddd"]]:
            page = page_of(words, 6)
            page.widen(7)
            page.undo()
            for name in ["words_now", "table_now", "starts_now", "lines_now"]:
                told = getattr(page, name)()
                self.assertIsNot(getattr(page, name)(), told)
                told.append("x")
                told[0] = "y"
                self.assert_page(page, words, 6)
                told.clear()
                self.assert_page(page, words, 6)

    def test_who_changes_a_told_list_changes_no_past(self):
        page = Page(5)
        lists = []
        for word in ["a", "b", "c"]:
            lists.append(page.words_now())
            page.put(0, word)
        for told in lists:
            told.append("x")
        for words in [["b", "a"], ["a"], []]:
            page.undo()
            self.assert_page(page, words, 5)

    def test_a_told_list_stays_as_the_page_goes_on(self):
        page = page_of(["a", "b"], 5)
        told = [page.words_now(), page.table_now(), page.starts_now(), page.lines_now()]
        page.put(0, "c")
        page.widen(1)
        page.undo()
        page.drop(1)
        self.assertEqual(told, [["a", "b"], [0, 0, 0], [0], ["a b"]])


class ManyDeedsTest(PageCase):
    def test_all_rows_of_five_deeds(self):
        for deeds in product(DEEDS, repeat=5):
            page = Page(3)
            past = [([], 3)]
            for deed in deeds:
                self.do(page, past, deed)
            self.assertEqual((page.words_now(), page.width_now()), past[-1])

    def test_what_a_page_tells_after_each_of_many_deeds(self):
        page = Page(3)
        past = [([], 3)]
        for k in range(3000):
            deed = DEEDS[(k * k + k // 5 + k // 11) % 9]
            self.do(page, past, deed)
            self.assert_page(page, *past[-1])

    def do(self, page, past, deed):
        """Do a deed to the page and to its past by hand, which has what is now at its end."""
        if deed == ("undo",):
            expected = past[-2] if len(past) > 1 else NoWayBack
        else:
            expected = after(past[-1], deed)
        try:
            told = getattr(page, deed[0])(*deed[1:])
        except WrapError as refusal:
            self.assertIs(type(refusal), expected)
            return
        self.assertIsInstance(expected, tuple)
        if deed == ("undo",):
            past.pop()
        else:
            past.append(expected)
        self.assertEqual(told, past[-2][0][deed[1]] if deed[0] == "drop" else None)


if __name__ == "__main__":
    unittest.main()
