"""Texts laid out: wrapped, and squared."""

from textwrapper.breaks import bounds_of, lines_of
from textwrapper.errors import TooWide
from textwrapper.least import best_starts
from textwrapper.measure import check_width, check_words, line_of, size_of
from textwrapper.words import paragraphs_of, words_of


def wrapped(text, width):
    """Tell the text, each paragraph broken by its best starts; refuse with NoWidth, then LongWord."""
    check_words(words_of(text), width)
    return joined([lines_of(words, best_starts(words, width)) for words in paragraphs_of(text)])


def squared(text, width):
    """Tell the text wrapped, all lines but the last of a paragraph spread; refuse with NoWidth, then LongWord."""
    check_words(words_of(text), width)
    return joined([squared_lines(words, width) for words in paragraphs_of(text)])


def spread_line(words, width):
    """Tell the line of the words with blanks up to the width; refuse with NoWidth, then TooWide."""
    check_width(width)
    if size_of(words, 0, len(words)) > width:
        raise TooWide("the line has more signs than the width tells")
    if len(words) < 2:
        return line_of(words, 0, len(words))
    signs = len("".join(words))
    blanks, more = divmod(width - signs, len(words) - 1)
    line = words[0]
    for place in range(1, len(words)):
        line = line + " " * (blanks + 1 if place <= more else blanks) + words[place]
    return line


def squared_lines(words, width):
    """Tell the lines of a paragraph, each but the last spread."""
    rows = [words[begin:end] for begin, end in bounds_of(words, best_starts(words, width))]
    lines = [spread_line(row, width) for row in rows[:-1]]
    return lines + [" ".join(rows[-1])]


def joined(paragraphs):
    """Tell the text of paragraphs of lines."""
    return "\n\n".join(["\n".join(lines) for lines in paragraphs])
