"""Sums of signs: what can be told of balls without looking at them."""

from ballscover.bits import weight, word_count


def sign(word):
    """1 if a word has evenly many 1, else -1."""
    return 1 if weight(word) % 2 == 0 else -1


def sign_sum(bits, k, i):
    """Over all sets of k of the bits, 1 if evenly many of them are among i told ones, else -1, together."""
    # All sets of k are gone through, so it is all one which i bits are told: the lowest are.
    lowest = word_count(i) - 1
    return sum([sign(places & lowest) for places in range(word_count(bits)) if weight(places) == k])


def round_sum(bits, r, i):
    """The sign sums of 0, 1 and so on up to r, and i, together."""
    return sum([sign_sum(bits, k, i) for k in range(r + 1)])


def round_zeros(bits, r):
    """The numbers from 1 to the bits at which the round sum of r is 0, rising."""
    return [i for i in range(1, bits + 1) if round_sum(bits, r, i) == 0]


def tilt(there, places):
    """How many of the words there are have evenly many 1 at the places, less how many have oddly many."""
    return sum([sign(word & places) for word in there])


def places_in_the_way(bits, there, r):
    """The sets of places, not empty, that tilt and whose round sum is not 0, rising."""
    sums = [round_sum(bits, r, i) for i in range(bits + 1)]
    tilting = [places for places in range(1, word_count(bits)) if tilt(there, places) != 0]
    return [places for places in tilting if sums[weight(places)] != 0]
