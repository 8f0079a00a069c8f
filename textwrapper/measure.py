"""The measures of lines and words, and whether they fit a width."""

from textwrapper.errors import LongWord, NoWidth


def line_of(words, begin, end):
    """Tell the line of the words from begin up to, not with, end."""
    return " ".join(words[begin:end])


def size_of(words, begin, end):
    """Tell how many signs the line from begin up to, not with, end has."""
    return len(line_of(words, begin, end))


def sizes_from(words, width, begin):
    """Tell the sizes of the lines from begin that fit, the line of one word first."""
    sizes = []
    # The first word of a line has no blank ahead of it.
    size = -1
    for place in range(begin, len(words)):
        size = size + 1 + len(words[place])
        if size > width:
            return sizes
        sizes.append(size)
    return sizes


def long_word(words, width):
    """Tell the place of the first word that does not fit, or None; refuse with NoWidth."""
    check_width(width)
    for place, word in enumerate(words):
        if len(word) > width:
            return place
    return None


def check_width(width):
    """Refuse a width below 1 with NoWidth."""
    if width < 1:
        # The message leaves the number out: Python will not write one of some thousand digits.
        raise NoWidth("a width is 1 or more")


def check_words(words, width):
    """Refuse what can not be broken: first with NoWidth, then with LongWord."""
    if long_word(words, width) is not None:
        raise LongWord("a word has more signs than the width tells")
