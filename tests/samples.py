"""Inputs that several tests share.

Lists of some thousand items are compared by assertTrue(a == b): where they differ,
assertEqual would work out their difference for minutes.
"""

from itertools import combinations, product

FAR_BELOW = -(10 ** 5000)
FAR_ABOVE = 10 ** 5000
BAD_WIDTHS = [0, -1, -2, -80, FAR_BELOW]
WORDLESS = ["", " ", "   ", "\n", "\n\n", " \n", "\n ", " \n \n\n   \n"]

VERSE = ["the", "quick", "brown", "fox", "jumps", "over", "a", "lazy", "dog"]


def many_words(count):
    """Words of 1 to 9 signs in an order without a short period."""
    return ["abcdefghi"[: 1 + (k * k + k // 7) % 9] for k in range(count)]


def short_texts():
    """All texts of up to seven of these signs."""
    for count in range(8):
        for signs in product("a \n", repeat=count):
            yield "".join(signs)


def word_lists(sizes, most):
    """All lists of up to `most` words that have these sizes."""
    for count in range(most + 1):
        for row in product(sizes, repeat=count):
            yield ["x" * size for size in row]


def all_starts(count):
    """All starts of the lines of that many words."""
    if count == 0:
        return [[]]
    return [
        [0, *rest]
        for many in range(count)
        for rest in combinations(range(1, count), many)
    ]


def sizes_by_hand(words, starts):
    """The size of each line, counted sign by sign and blank by blank."""
    sizes = []
    for place, word in enumerate(words):
        if place in starts:
            sizes.append(len(word))
        else:
            sizes[-1] += 1 + len(word)
    return sizes


def fitting_starts(words, width):
    """All starts of the words whose lines fit."""
    return [
        starts for starts in all_starts(len(words))
        if max(sizes_by_hand(words, starts), default=0) <= width
    ]


def sum_by_hand(words, width, starts):
    """The squares of the gaps of all lines but the last, added up."""
    return sum((width - size) ** 2 for size in sizes_by_hand(words, starts)[:-1])


def best_by_search(words, width, found):
    """Of these starts those of the least sum, of several those with long first lines."""
    def order(starts):
        lines = zip(starts, starts[1:] + [len(words)])
        return sum_by_hand(words, width, starts), [begin - end for begin, end in lines]
    return min(found, key=order)


def bad_starts(count):
    """Lists of places that are no starts of that many words (3 or more, or none)."""
    if count == 0:
        return [[0], [1], [-1], [0, 1], [0, 0], [FAR_ABOVE], [FAR_BELOW]]
    return [
        [],
        [1],
        [-1],
        [-1, 0],
        [1, 2],
        [0, 0],
        [0, 1, 1],
        [0, 1, 1, 2],
        [0, 2, 1],
        [1, 0],
        [0, -1],
        [0, -1, 1],
        [0, 1, -1],
        [0, 1, 0],
        [0, count],
        [0, 1, count],
        [0, count, 1],
        [0, count + 1],
        [0, 1, count + 100],
        [count],
        [0, FAR_ABOVE],
        [FAR_ABOVE],
        [0, FAR_BELOW],
        [FAR_BELOW],
        list(range(count + 1)),
    ]
