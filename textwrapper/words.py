"""The words and the paragraphs of a text."""


def words_of(text):
    """Tell the longest stretches without blanks and line ends, in order."""
    return text.split()


def is_word(text):
    """Tell whether the text is one word and nothing else."""
    return words_of(text) == [text]


def paragraphs_of(text):
    """Tell the words of each paragraph; rows without words part paragraphs."""
    paragraphs = []
    parted = True
    for row in text.split("\n"):
        words = words_of(row)
        if words and parted:
            paragraphs.append(words)
        elif words:
            paragraphs[-1].extend(words)
        parted = not words
    return paragraphs
