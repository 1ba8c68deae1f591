"""Words told as numbers: how many there are in all, their weight and their distance."""


def word_count(bits):
    """How many words of so many bits there are in all."""
    return 1 << bits


def weight(word):
    """How many 1 a word has."""
    ones = 0
    rest = word
    while rest > 0:
        ones += rest % 2
        rest = rest // 2
    return ones


def distance(one, other):
    """At how many places two words differ."""
    return weight(one ^ other)
