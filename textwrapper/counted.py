"""The least sum in a number of lines."""

from textwrapper.breaks import quick_starts
from textwrapper.errors import TooFew, TooMany
from textwrapper.least import best_line, squares_of
from textwrapper.measure import sizes_from


def starts_in(words, width, many):
    """Tell the best starts in just that many lines; refuse with NoWidth, LongWord, then TooFew or TooMany."""
    check_many(words, width, many)
    counts = [counts_from(words, width, begin) for begin in range(len(words))]
    tables = tables_below(counts, many)
    starts = []
    begin = 0
    for left in reversed(range(many)):
        starts.append(begin)
        _, begin = best_line(counts[begin], begin, tables[left])
    return starts


def check_many(words, width, many):
    """Refuse with NoWidth, then LongWord, then a number of lines that there can not be."""
    if many < len(quick_starts(words, width)):
        raise TooFew("the words do not fit into that few lines")
    if many > len(words):
        raise TooMany("there are fewer words than lines")


def counts_from(words, width, begin):
    """Tell what the lines from begin that fit count, the line of one word first."""
    counts = squares_of(width, sizes_from(words, width, begin))
    if begin + len(counts) == len(words):
        # This line ends the words, and the last line counts nothing.
        counts[-1] = 0
    return counts


def tables_below(counts, many):
    """Tell a table for each number of lines below many, the one of no lines first.

    A table has for each place the least sum of the words from it on in just that many
    lines, or None where there is no way to break them so.
    """
    tables = [[None] * len(counts) + [0]]
    for left in range(many - 1):
        rest = tables[left]
        sums = [best_line(row, begin, rest)[0] for begin, row in enumerate(counts)]
        tables.append(sums + [None])
    return tables
