"""The balls of r round the words there are: how large they are, and how often they hit."""

from ballscover.bits import distance, weight, word_count


def ball_size(bits, r):
    """How many words a ball has."""
    # All balls of r are equally large; round 0 a word's distance is its weight.
    return len([word for word in range(word_count(bits)) if weight(word) <= r])


def hit_count(there, r, x):
    """How often x is hit."""
    # x lies in the ball round a word just if that word lies in the ball round x.
    return len([word for word in there if distance(word, x) <= r])


def hit_counts(bits, there, r):
    """How often each of all words is hit, from 0 on."""
    return [hit_count(there, r, x) for x in range(word_count(bits))]


def words_by_hits(bits, there, r):
    """How many words are hit 0 times, once and so on, up to as often as there are words."""
    counts = hit_counts(bits, there, r)
    return [counts.count(often) for often in range(len(there) + 1)]


def words_hit(bits, there, r, often):
    """The words, of all words, that are hit just so often, rising."""
    return [x for x, count in enumerate(hit_counts(bits, there, r)) if count == often]


def balls_cover(bits, there, r):
    """Whether each word is hit."""
    return min(hit_counts(bits, there, r)) >= 1


def balls_apart(bits, there, r):
    """Whether no word is hit twice."""
    return max(hit_counts(bits, there, r)) <= 1


def balls_fill(bits, there, r):
    """Whether the balls cover and are apart."""
    return balls_cover(bits, there, r) and balls_apart(bits, there, r)


def needed_words(bits, there, r):
    """The words there are without which, each alone, balls that cover would not, rising."""
    # Without a word just those that its ball alone hits are uncovered.
    once = words_hit(bits, there, r, 1)
    return [word for word in there if any([distance(word, x) <= r for x in once])]


def covering_radius(bits, there):
    """The least r so that balls cover; there must be words."""
    r = 0
    while not balls_cover(bits, there, r):
        r += 1
    return r


def apart_reach(bits, there):
    """The greatest r, up to the bits, so that balls are apart."""
    # Balls of 0 are apart, and where greater ones are, lesser ones are too: the first that are not end it.
    r = 0
    while r < bits and balls_apart(bits, there, r + 1):
        r += 1
    return r
