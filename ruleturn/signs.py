"""Bytes written as a text, two signs for each, so that texts can be searched and joined whole."""

SIGNS_PER_BYTE = 2

# The two rows share no sign: what is searched for is never found halfway through a byte.
HIGH_SIGNS = "ABCDEFGHIJKLMNOP"
LOW_SIGNS = "abcdefghijklmnop"


def written(row):
    """The text that stands for a list of whole numbers from 0 to 255."""
    return "".join([HIGH_SIGNS[value // 16] + LOW_SIGNS[value % 16] for value in row])


def read_back(text):
    """The list of whole numbers for which a text stands."""
    return [
        HIGH_SIGNS.find(text[place]) * 16 + LOW_SIGNS.find(text[place + 1])
        for place in range(0, len(text), SIGNS_PER_BYTE)
    ]
