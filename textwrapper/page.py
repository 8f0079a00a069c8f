"""Pages: words and a width that change deed by deed, and back."""

from textwrapper.breaks import lines_of
from textwrapper.errors import Full, NoPlace, NoWayBack, NoWord
from textwrapper.least import best_starts, table_of
from textwrapper.measure import check_width, check_words
from textwrapper.words import is_word

MOST_WORDS = 120


class Page:
    """Words, none at first, and a width, with the deeds that changed them."""

    def __init__(self, width):
        """Begin without words; refuse with NoWidth."""
        check_width(width)
        # Deeds replace the list of words and never change it, so the past may keep it as it is.
        self.words = []
        self.width = width
        self.past = []

    def put(self, at, word):
        """Put a word ahead of the one at a place, or behind all; refuse with NoPlace, NoWord, LongWord, Full."""
        if at < 0 or at > len(self.words):
            raise NoPlace("a word is put at a place of the page or just behind its words")
        if not is_word(word):
            raise NoWord("a word is one sign or more without blanks and line ends")
        check_words([word], self.width)
        if len(self.words) >= MOST_WORDS:
            raise Full("the page takes no further word")
        self.change(self.words[:at] + [word] + self.words[at:], self.width)

    def drop(self, at):
        """Drop the word at a place and tell it; refuse with NoPlace."""
        if at < 0 or at >= len(self.words):
            raise NoPlace("no word of the page is at this place")
        word = self.words[at]
        self.change(self.words[:at] + self.words[at + 1:], self.width)
        return word

    def widen(self, width):
        """Give the page another width; refuse with NoWidth, then LongWord."""
        check_words(self.words, width)
        self.change(self.words, width)

    def undo(self):
        """Take the last deed back; refuse with NoWayBack."""
        if not self.past:
            raise NoWayBack("there is no deed to take back")
        self.words, self.width = self.past.pop()

    def change(self, words, width):
        """Do a deed: keep what was, and take these words and this width."""
        self.past.append((self.words, self.width))
        self.words = words
        self.width = width

    def words_now(self):
        """Tell the words."""
        return list(self.words)

    def width_now(self):
        """Tell the width."""
        return self.width

    def table_now(self):
        """Tell the table of the words."""
        return table_of(self.words, self.width)

    def starts_now(self):
        """Tell the best starts of the words."""
        return best_starts(self.words, self.width)

    def lines_now(self):
        """Tell the texts of the lines."""
        return lines_of(self.words, self.starts_now())
