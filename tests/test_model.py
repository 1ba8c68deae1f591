"""The calls against a second way of working them out, and what the document says that holds."""

import itertools
import unittest

from tests.helper import run, with_words


def subsets(bits):
    for chosen in itertools.product((False, True), repeat=2 ** bits):
        yield [word for word in range(2 ** bits) if chosen[word]]


def some_sets():
    """All sets of up to 3 bits, and sets of more bits that are spread by a fixed rule."""
    for bits in (1, 2, 3):
        for there in subsets(bits):
            yield bits, there
    for bits in (4, 5, 6):
        for step in range(1, 24):
            yield bits, sorted({(step * step * k + 7 * k + step) % 2 ** bits for k in range(step % 11 + 1)})


def ball_round(bits, word, r):
    """Goes from word to word a changed bit at a time, and never asks for a weight."""
    reached = {word}
    for unused in range(r):
        reached |= {one ^ (1 << bit) for one in reached for bit in range(bits)}
    return reached


def span(there):
    """All sums of the words, that with none among them only if there are words."""
    found = {0} if there else set()
    for word in there:
        found |= {one ^ word for one in found}
    return sorted(found)


def filled(bits, there, r):
    """A word is far enough just if it is in no ball of twice r."""
    found = set(there)
    near = set().union(*[ball_round(bits, word, 2 * r) for word in there])
    for word in range(2 ** bits):
        if word not in near:
            found.add(word)
            near |= ball_round(bits, word, 2 * r)
    return sorted(found)


class AgainstTheModel(unittest.TestCase):
    def test_looking(self):
        for bits, there in some_sets():
            for r in range(bits + 1):
                balls = [ball_round(bits, word, r) for word in there]
                counts = [sum(x in ball for ball in balls) for x in range(2 ** bits)]
                x = (5 * r + len(there)) % 2 ** bits
                found = run(f"{with_words(bits, there)}; words; ball {r}; hits {r} {x}; times {r}; covers {r}; apart {r}")
                self.assertEqual(found[len(there) + 1:], [
                    [len(there)] + there,
                    [len(ball_round(bits, 0, r))],
                    [counts[x]],
                    [len(there) + 1] + [counts.count(often) for often in range(len(there) + 1)],
                    [int(0 not in counts)],
                    [int(max(counts) < 2)],
                ])

    def test_hits_of_every_word(self):
        for bits, there in some_sets():
            r = len(there) % (bits + 1)
            for first in range(0, 2 ** bits, 16):
                part = range(first, min(first + 16, 2 ** bits))
                found = run("; ".join([with_words(bits, there)] + [f"hits {r} {x}" for x in part]))
                self.assertEqual(found[len(there) + 1:],
                                 [[sum(x in ball_round(bits, word, r) for word in there)] for x in part])

    def test_changing(self):
        for bits, there in some_sets():
            y = (3 * len(there) + 1) % 2 ** bits
            found = run(f"{with_words(bits, there)}; move {y}; words")
            self.assertEqual(found[-2:], [[0], [len(there)] + sorted(word ^ y for word in there)])
            found = run(f"{with_words(bits, there)}; close; words")
            self.assertEqual(found[-2:], [[len(span(there))], [len(span(there))] + span(there)])
            for r in range(bits + 1):
                expected = filled(bits, there, r)
                found = run(f"{with_words(bits, there)}; fill {r}; words")
                self.assertEqual(found[-2:], [[len(expected)], [len(expected)] + expected])


class WhatHolds(unittest.TestCase):
    def test_apart_just_if_any_two_are_farther_than_twice_r(self):
        for bits, there in some_sets():
            for r in range(bits + 1):
                far = all((one ^ other).bit_count() > 2 * r for one, other in itertools.combinations(there, 2))
                found = run(f"{with_words(bits, there)}; ball {r}; covers {r}; apart {r}")
                [size], [covers], [apart] = found[-3:]
                self.assertEqual(apart, int(far))
                if apart:
                    self.assertLessEqual(size * len(there), 2 ** bits)
                    self.assertEqual(covers, int(size * len(there) == 2 ** bits))

    def test_filled_they_are_apart_if_they_were_and_twice_r_covers(self):
        for bits, there in some_sets():
            for r in range(bits + 1):
                twice = min(2 * r, bits)
                found = run(f"{with_words(bits, there)}; apart {r}; fill {r}; apart {r}; covers {twice}")
                self.assertEqual(found[-2], found[-4])
                self.assertEqual(found[-1], [1])

    def test_a_greater_ball_covers_where_a_lesser_one_does(self):
        for bits, there in some_sets():
            looks = "; ".join(f"covers {r}" for r in range(bits + 1))
            found = run(f"{with_words(bits, there)}; {looks}")[len(there) + 1:]
            self.assertEqual(found, sorted(found))

    def test_hits_together_are_the_balls_together(self):
        for bits, there in some_sets():
            for r in range(bits + 1):
                [size], [count, *words_hit] = run(f"{with_words(bits, there)}; ball {r}; times {r}")[-2:]
                self.assertEqual(count, len(there) + 1)
                self.assertEqual(sum(words_hit), 2 ** bits)
                self.assertEqual(sum(often * many for often, many in enumerate(words_hit)), size * len(there))


if __name__ == "__main__":
    unittest.main()
