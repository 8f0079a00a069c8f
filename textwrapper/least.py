"""The least sum: the table of words, and their best starts."""

from textwrapper.measure import check_words, sizes_from


def table_of(words, width):
    """Tell the least sum of the words from each place on, and 0; refuse with NoWidth, then LongWord."""
    check_words(words, width)
    table = [0] * (len(words) + 1)
    for begin in reversed(range(len(words))):
        least, _ = first_line(words, width, begin, table)
        table[begin] = least
    return table


def best_starts(words, width):
    """Tell the starts of the least sum, long lines first; refuse with NoWidth, then LongWord."""
    table = table_of(words, width)
    starts = []
    begin = 0
    while begin < len(words):
        starts.append(begin)
        _, begin = first_line(words, width, begin, table)
    return starts


def first_line(words, width, begin, table):
    """Tell the least sum of the words from begin on, and where the first line of its best starts ends."""
    sizes = sizes_from(words, width, begin)
    if begin + len(sizes) == len(words):
        # One line takes all that are left, so no sum is less and no line has more words.
        # Without this way out, the squares of a width of thousands of digits would take minutes.
        return 0, len(words)
    return best_line(squares_of(width, sizes), begin, table)


def best_line(counts, begin, rest):
    """Tell the least sum of a line from begin and the rest behind it, and where the longest such line ends.

    The counts are those of the lines of one word, of two, and so on. The rest has None at
    a place from which the words can not go on; both answers are None where no line can.
    """
    least = None
    best = None
    for end, count in enumerate(counts, start=begin + 1):
        if rest[end] is None:
            continue
        total = count + rest[end]
        # Of equal sums the later one has the longer line.
        if least is None or total <= least:
            least = total
            best = end
    return least, best


def squares_of(width, sizes):
    """Tell the squares of the gaps of lines of these sizes."""
    return [(width - size) ** 2 for size in sizes]
