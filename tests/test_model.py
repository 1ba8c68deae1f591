"""The calls against a second way of working them out."""

import unittest

from tests.helper import looked, run, setting, some_sets


def ball_round(bits, word, r):
    """Goes from word to word a changed bit at a time, and never asks for a weight."""
    reached = {word}
    for unused in range(r):
        reached |= {one ^ (1 << bit) for one in reached for bit in range(bits)}
    return reached


def span(there):
    """All sums of the words, that with none among them only if there are words."""
    found = {0} if there else set()
    for word in there:
        found |= {one ^ word for one in found}
    return sorted(found)


def filled(bits, there, r):
    """A word is far enough just if it is in no ball of twice r."""
    found = set(there)
    near = set().union(*[ball_round(bits, word, 2 * r) for word in there])
    for word in range(2 ** bits):
        if word not in near:
            found.add(word)
            near |= ball_round(bits, word, 2 * r)
    return sorted(found)


def covered(balls):
    return set().union(*balls)


def round_sum(bits, r, i):
    """The first coefficients of (1 - z) to the power of i times (1 + z) to that of the other bits, together."""
    row = [1] + [0] * bits
    for bit in range(bits):
        step = -1 if bit < i else 1
        row = [row[k] + (step * row[k - 1] if k else 0) for k in range(bits + 1)]
    return sum(row[:r + 1])


def in_the_way(bits, there, r):
    found = []
    for places in range(1, 2 ** bits):
        odd = [word for word in there if bin(word & places).count("1") % 2]
        if 2 * len(odd) != len(there) and round_sum(bits, r, bin(places).count("1")):
            found.append(places)
    return found


def needed(bits, there, r):
    """Takes out word by word and looks whether the rest covers."""
    left = {word: covered([ball_round(bits, one, r) for one in there if one != word]) for word in there}
    return [word for word in there if len(left[word]) < 2 ** bits]


def mended(there, x):
    near = sorted((bin(word ^ x).count("1"), word) for word in there)
    return [near[0][1], near[0][0], sum(far == near[0][0] for far, word in near)]


def greedy(bits, r):
    balls = {word: ball_round(bits, word, r) for word in range(2 ** bits)}
    open_words = set(balls)
    taken = []
    while open_words:
        lost, best = min((-len(balls[word] & open_words), word) for word in balls)
        taken.append(best)
        open_words -= balls[best]
    return taken


def with_count(found):
    return [len(found)] + list(found)


class AgainstTheModel(unittest.TestCase):
    def test_looking_at_hits(self):
        for bits, there in some_sets():
            for r in range(bits + 1):
                balls = [ball_round(bits, word, r) for word in there]
                counts = [sum(x in ball for ball in balls) for x in range(2 ** bits)]
                x = (5 * r + len(there)) % 2 ** bits
                looks = ["words", f"ball {r}", f"hits {r} {x}", f"times {r}", f"covers {r}", f"apart {r}",
                         f"fills {r}", f"evenly {r}", f"uncovered {r}", "told"]
                self.assertEqual(looked(bits, there, looks), [
                    with_count(there),
                    [len(ball_round(bits, 0, r))],
                    [counts[x]],
                    with_count([counts.count(often) for often in range(len(there) + 1)]),
                    [int(0 not in counts)],
                    [int(max(counts) < 2)],
                    [int(set(counts) == {1})],
                    [counts[0] if len(set(counts)) == 1 else -33],
                    with_count([x for x in range(2 ** bits) if counts[x] == 0]),
                    [bits, len(there)],
                ])

    def test_needed(self):
        for bits, there in some_sets():
            for r in range(bits + 1):
                covers = len(covered([ball_round(bits, word, r) for word in there])) == 2 ** bits
                expected = with_count(needed(bits, there, r)) if covers else [-33]
                self.assertEqual(looked(bits, there, [f"needed {r}"]), [expected])

    def test_radius_and_reach(self):
        for bits, there in some_sets():
            reached = [[ball_round(bits, word, r) for word in there] for r in range(bits + 1)]
            covering = [r for r in range(bits + 1) if len(covered(reached[r])) == 2 ** bits]
            apart = [r for r in range(bits + 1) if len(covered(reached[r])) == sum(map(len, reached[r]))]
            self.assertEqual(looked(bits, there, ["radius", "reach"]), [[min(covering, default=-6)], [max(apart)]])

    def test_sums(self):
        for bits in range(1, 7):
            for r in range(bits + 1):
                sums = [round_sum(bits, r, i) for i in range(bits + 1)]
                looks = [f"zeros {r}"] + [f"round {r} {i}" for i in range(bits + 1)]
                self.assertEqual(looked(bits, [], looks),
                                 [with_count([i for i in range(1, bits + 1) if not sums[i]])] + [[0, x] for x in sums])

    def test_in_the_way(self):
        for bits, there in some_sets():
            looks = [f"in_the_way {r}" for r in range(bits + 1)]
            self.assertEqual(looked(bits, there, looks),
                             [with_count(in_the_way(bits, there, r)) for r in range(bits + 1)])

    def test_cover(self):
        for bits in range(1, 7):
            looks = [f"cover {r}" for r in range(bits + 1)]
            self.assertEqual(looked(bits, [], looks), [with_count(greedy(bits, r)) for r in range(bits + 1)])

    def test_mend_of_every_word(self):
        for bits, there in some_sets():
            every = range(2 ** bits)
            self.assertEqual(looked(bits, there, [f"mend {x}" for x in every]),
                             [mended(there, x) if there else [-6] for x in every])

    def test_hits_of_every_word(self):
        for bits, there in some_sets():
            r = len(there) % (bits + 1)
            balls = [ball_round(bits, word, r) for word in there]
            self.assertEqual(looked(bits, there, [f"hits {r} {x}" for x in range(2 ** bits)]),
                             [[sum(x in ball for ball in balls)] for x in range(2 ** bits)])

    def test_changing(self):
        for bits, there in some_sets():
            y = (3 * len(there) + 1) % 2 ** bits
            found = run(f"{setting(bits, there)}; move {y}; words")
            self.assertEqual(found[-2:], [[0], with_count(sorted(word ^ y for word in there))])
            found = run(f"{setting(bits, there)}; close; words")
            self.assertEqual(found[-2:], [[len(span(there))], with_count(span(there))])
            for r in range(bits + 1):
                expected = filled(bits, there, r)
                found = run(f"{setting(bits, there)}; fill {r}; words")
                self.assertEqual(found[-2:], [[len(expected)], with_count(expected)])


if __name__ == "__main__":
    unittest.main()
