"""Words that are chosen: the nearest to one, and those of a cover taken greedily."""

from ballscover.bits import distance, word_count


def nearest_words(there, x):
    """The words there are, of which there must be some, that are nearest to x, rising."""
    least = min([distance(word, x) for word in there])
    return [word for word in there if distance(word, x) == least]


def ball_round(bits, word, r):
    """The words of one ball, rising."""
    return [x for x in range(word_count(bits)) if distance(word, x) <= r]


def count_open(ball, covered):
    """How many words of a ball are not covered yet."""
    return len([x for x in ball if x not in covered])


def greedy_cover(bits, r):
    """The words of the cover taken greedily, as they are taken."""
    balls = [ball_round(bits, word, r) for word in range(word_count(bits))]
    covered = {}
    taken = []
    while len(covered) < word_count(bits):
        gains = [count_open(ball, covered) for ball in balls]
        # Of like ones the first is to be taken, and index finds the first.
        best = gains.index(max(gains))
        taken.append(best)
        for x in balls[best]:
            covered[x] = True
    return taken
