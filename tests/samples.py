"""Inputs that several tests share.

Lists of some thousand items are compared by assertTrue(a == b): where they differ,
assertEqual would work out their difference for minutes.
"""

from itertools import combinations, product

FAR_BELOW = -(10 ** 5000)
FAR_ABOVE = 10 ** 5000
BAD_WIDTHS = [0, -1, -2, -80, FAR_BELOW]

VERSE = ["the", "quick", "brown", "fox", "jumps", "over", "a", "lazy", "dog"]


def many_words(count):
    """Words of 1 to 9 signs in an order without a short period."""
    return ["abcdefghi"[: 1 + (k * k + k // 7) % 9] for k in range(count)]


def word_lists(sizes, most):
    """All lists of up to `most` words that have these sizes."""
    for count in range(most + 1):
        for row in product(sizes, repeat=count):
            yield ["x" * size for size in row]


def all_starts(count):
    """All starts of the lines of that many words."""
    if count == 0:
        return [[]]
    return [
        [0, *rest]
        for many in range(count)
        for rest in combinations(range(1, count), many)
    ]


def sizes_by_hand(words, starts):
    """The size of each line, counted sign by sign and blank by blank."""
    sizes = []
    for place, word in enumerate(words):
        if place in starts:
            sizes.append(len(word))
        else:
            sizes[-1] += 1 + len(word)
    return sizes


def bad_starts(count):
    """Lists of places that are no starts of that many words (3 or more, or none)."""
    if count == 0:
        return [[0], [1], [-1], [0, 1], [0, 0], [FAR_ABOVE], [FAR_BELOW]]
    return [
        [],
        [1],
        [-1],
        [-1, 0],
        [1, 2],
        [0, 0],
        [0, 1, 1],
        [0, 1, 1, 2],
        [0, 2, 1],
        [1, 0],
        [0, -1],
        [0, -1, 1],
        [0, 1, -1],
        [0, 1, 0],
        [0, count],
        [0, 1, count],
        [0, count, 1],
        [0, count + 1],
        [0, 1, count + 100],
        [count],
        [0, FAR_ABOVE],
        [FAR_ABOVE],
        [0, FAR_BELOW],
        [FAR_BELOW],
        list(range(count + 1)),
    ]
