"""What the document says that holds, a to f, over all sets of up to 3 bits and chosen ones of 4 to 6, and all r."""

import itertools
import unittest

from tests.helper import BIGGEST, looked, run, setting, some_sets


def sets_and_reaches():
    for bits, there in some_sets():
        for r in range(bits + 1):
            yield bits, there, r


def changed_words(bits, r):
    """Each choice of at most r places, told as a word."""
    return [places for places in range(2 ** bits) if places.bit_count() <= r]


def refused_calls(bits, there, r):
    """Calls that are refused with these words there, and their refusals."""
    beyond = 2 ** bits
    calls = {"begin 0": -22, "begin 7": -22}
    for name in ("put", "take", "move", "mend"):
        calls[f"{name} {beyond}"] = -22
        calls[f"{name} {BIGGEST}"] = -22
    for name in ("fill", "ball", "times", "covers", "apart", "fills", "evenly", "zeros", "in_the_way", "uncovered",
                 "cover", "needed"):
        calls[f"{name} {bits + 1}"] = -22
    for handed in (f"{bits + 1} 0", f"{r} {beyond}"):
        calls[f"hits {handed}"] = -22
    for handed in (f"{bits + 1} 0", f"{r} {bits + 1}"):
        calls[f"round {handed}"] = -22
    for word in range(beyond):
        calls[f"put {word}" if word in there else f"take {word}"] = -17 if word in there else -2
    if not there:
        calls["radius"] = -6
        calls["mend 0"] = -6
    return calls


def looks_at_all(bits, r):
    return ["words", f"ball {r}", f"hits {r} 1", f"times {r}", f"covers {r}", f"apart {r}", f"fills {r}",
            f"evenly {r}", f"round {r} {bits}", f"zeros {r}", f"in_the_way {r}", "radius", "reach", f"uncovered {r}",
            "mend 1", f"cover {r}", f"needed {r}", "told"]


class EachWordJustSoOften(unittest.TestCase):
    def test_evenly_hit_all_balls_are_so_many_times_all_words(self):
        for bits, there, r in sets_and_reaches():
            [size], [often] = looked(bits, there, [f"ball {r}", f"evenly {r}"])
            if often != -33:
                self.assertEqual(size * len(there), often * 2 ** bits)

    def test_it_is_so_just_where_nothing_is_in_the_way(self):
        seen = set()
        for bits, there, r in sets_and_reaches():
            [often], in_the_way = looked(bits, there, [f"evenly {r}", f"in_the_way {r}"])
            self.assertEqual(often != -33, in_the_way == [0], (bits, there, r))
            seen.add(often)
        self.assertLessEqual({-33, 0, 1, 2, 3}, seen)


class Filling(unittest.TestCase):
    def test_balls_that_fill_have_as_many_zeros_as_they_reach(self):
        seen = set()
        for bits, there, r in sets_and_reaches():
            [fills], [count, *numbers], [reach] = looked(bits, there, [f"fills {r}", f"zeros {r}", "reach"])
            if fills:
                self.assertEqual((count, len(numbers), reach), (r, r, r), (bits, there))
                seen.add((bits, r, len(there)))
        self.assertLessEqual({(1, 0, 2), (1, 1, 1), (3, 1, 2), (5, 2, 2), (6, 0, 64), (6, 6, 1)}, seen)

    def test_they_fill_just_if_they_cover_and_are_apart(self):
        for bits, there, r in sets_and_reaches():
            [fills], [covers], [apart] = looked(bits, there, [f"fills {r}", f"covers {r}", f"apart {r}"])
            self.assertEqual(fills, covers * apart)


class Apart(unittest.TestCase):
    def test_just_if_any_two_are_farther_apart_than_twice_r(self):
        for bits, there, r in sets_and_reaches():
            far = all((one ^ other).bit_count() > 2 * r for one, other in itertools.combinations(there, 2))
            self.assertEqual(looked(bits, there, [f"apart {r}"]), [[int(far)]])

    def test_then_they_are_no_more_than_all_words_and_no_fewer_if_they_cover(self):
        for bits, there, r in sets_and_reaches():
            [size], [covers], [apart] = looked(bits, there, [f"ball {r}", f"covers {r}", f"apart {r}"])
            if apart:
                self.assertLessEqual(size * len(there), 2 ** bits)
                self.assertEqual(covers, int(size * len(there) == 2 ** bits))

    def test_a_word_changed_at_few_places_is_mended(self):
        for bits, there, r in sets_and_reaches():
            if there and looked(bits, there, [f"apart {r}"]) == [[1]]:
                changes = [(word, places) for word in there for places in changed_words(bits, r)]
                found = looked(bits, there, [f"mend {word ^ places}" for word, places in changes])
                self.assertEqual(found, [[word, places.bit_count(), 1] for word, places in changes])


class Covering(unittest.TestCase):
    def test_a_cover_covers_each_word_once(self):
        for bits in range(1, 7):
            for r in range(bits + 1):
                [[count, *taken]] = looked(bits, [], [f"cover {r}"])
                self.assertEqual((count, len(set(taken))), (len(taken), len(taken)))
                self.assertEqual(looked(bits, taken, ["told", f"covers {r}"]), [[bits, count], [1]])

    def test_filled_they_are_apart_if_they_were_and_twice_r_covers(self):
        for bits, there, r in sets_and_reaches():
            twice = min(2 * r, bits)
            found = run(f"{setting(bits, there)}; apart {r}; fill {r}; apart {r}; covers {twice}")
            self.assertEqual(found[-2], found[-4])
            self.assertEqual(found[-1], [1])

    def test_a_greater_ball_covers_where_a_lesser_one_does(self):
        for bits, there in some_sets():
            *found, [radius] = looked(bits, there, [f"covers {r}" for r in range(bits + 1)] + ["radius"])
            self.assertEqual(found, [[int(radius != -6 and r >= radius)] for r in range(bits + 1)])

    def test_uncovered_words_are_none_just_where_the_balls_cover(self):
        for bits, there, r in sets_and_reaches():
            [covers], [count, *words_not_hit] = looked(bits, there, [f"covers {r}", f"uncovered {r}"])
            self.assertEqual((covers, count), (int(count == 0), len(words_not_hit)))

    def test_hits_together_are_the_balls_together(self):
        for bits, there, r in sets_and_reaches():
            [size], [count, *words_hit] = looked(bits, there, [f"ball {r}", f"times {r}"])
            self.assertEqual(count, len(there) + 1)
            self.assertEqual(sum(words_hit), 2 ** bits)
            self.assertEqual(sum(often * many for often, many in enumerate(words_hit)), size * len(there))


class NothingIsChanged(unittest.TestCase):
    def test_by_looking(self):
        for bits, there, r in sets_and_reaches():
            found = looked(bits, there, looks_at_all(bits, r) + ["words", "told"])
            self.assertEqual(found[-2:], [[len(there)] + there, [bits, len(there)]])

    def test_by_what_is_refused(self):
        for bits, there, r in sets_and_reaches():
            as_it_was = looked(bits, there, looks_at_all(bits, r))
            calls = refused_calls(bits, there, r)
            looks = looks_at_all(bits, r)
            # As many refused calls as a line of 60 has room for, then a look at all.
            room = 60 - len(setting(bits, there).split(";")) - len(looks)
            for first in range(0, len(calls), room):
                part = list(calls)[first:first + room]
                found = run("; ".join([setting(bits, there)] + part + looks))
                self.assertEqual(found[-len(part + looks):], [[calls[call]] for call in part] + as_it_was,
                                 (bits, there, part))


if __name__ == "__main__":
    unittest.main()
