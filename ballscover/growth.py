"""Words that are put in to those there are: two together, or far enough from all."""

from ballscover.bits import distance, word_count


def with_pairs(there):
    """The words there are and any two of them together, rising."""
    found = {}
    for one in there:
        found[one] = True
        for other in there:
            found[one ^ other] = True
    return sorted(list(found))


def closed(there):
    """The words there are and all that come of two together, again and again, rising."""
    before = []
    grown = list(there)
    while grown != before:
        before = grown
        grown = with_pairs(before)
    return grown


def is_far(x, there, bound):
    """Whether x is farther than the bound from each of the words there are."""
    return all([distance(x, word) > bound for word in there])


def filled(bits, there, r):
    """The words there are and, from 0 on, each that is then farther than twice r from all, rising."""
    grown = list(there)
    for x in range(word_count(bits)):
        if is_far(x, grown, 2 * r):
            grown.append(x)
    return sorted(grown)
