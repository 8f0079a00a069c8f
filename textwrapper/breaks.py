"""Words broken into lines by starts, the sum of starts, and the quick starts."""

from textwrapper.errors import NoStarts, TooWide
from textwrapper.measure import check_width, check_words, line_of, size_of


def lines_of(words, starts):
    """Tell the texts of the lines; refuse with NoStarts."""
    check_starts(words, starts)
    return [line_of(words, begin, end) for begin, end in bounds_of(words, starts)]


def sum_of(words, width, starts):
    """Tell the sum of the starts; refuse with NoWidth, then NoStarts, then TooWide."""
    check_width(width)
    check_starts(words, starts)
    gaps = [width - size_of(words, begin, end) for begin, end in bounds_of(words, starts)]
    if any(gap < 0 for gap in gaps):
        raise TooWide("a line has more signs than the width tells")
    return sum(gap * gap for gap in gaps[:-1])


def quick_starts(words, width):
    """Tell the starts whose lines each take as many words as fit; refuse with NoWidth, then LongWord."""
    check_words(words, width)
    starts = []
    size = 0
    for place, word in enumerate(words):
        longer = size + 1 + len(word)
        if not starts or longer > width:
            starts.append(place)
            size = len(word)
        else:
            size = longer
    return starts


def bounds_of(words, starts):
    """Tell for each line the place where it begins and the place behind it."""
    ends = starts[1:] + [len(words)]
    return list(zip(starts, ends))


def check_starts(words, starts):
    """Refuse a list that is not the starts of lines of the words with NoStarts."""
    if not are_starts(words, starts):
        raise NoStarts("these places are not the starts of lines of the words")


def are_starts(words, starts):
    """Tell whether the places rise from 0 to the place of a word, or are none of no words."""
    if not words or not starts:
        return not words and not starts
    if starts[0] != 0 or starts[-1] >= len(words):
        return False
    return all(starts[k] > starts[k - 1] for k in range(1, len(starts)))
