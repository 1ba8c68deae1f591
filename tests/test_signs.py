"""round, zeros and in_the_way."""

import unittest

from tests.helper import last, run

# The round sums of each r from 0 on, for i from 0 to the bits, worked out by hand.
ROUND_SUMS = {
    1: ([1, 1], [2, 0]),
    2: ([1, 1, 1], [3, 1, -1], [4, 0, 0]),
    3: ([1, 1, 1, 1], [4, 2, 0, -2], [7, 1, -1, 1], [8, 0, 0, 0]),
    4: ([1, 1, 1, 1, 1], [5, 3, 1, -1, -3], [11, 3, -1, -1, 3], [15, 1, -1, 1, -1], [16, 0, 0, 0, 0]),
    5: ([1, 1, 1, 1, 1, 1], [6, 4, 2, 0, -2, -4], [16, 6, 0, -2, 0, 6],
        [26, 4, -2, 0, 2, -4], [31, 1, -1, 1, -1, 1], [32, 0, 0, 0, 0, 0]),
    6: ([1, 1, 1, 1, 1, 1, 1], [7, 5, 3, 1, -1, -3, -5], [22, 10, 2, -2, -2, 2, 10],
        [42, 10, -2, -2, 2, 2, -10], [57, 5, -3, 1, 1, -3, 5], [63, 1, -1, 1, -1, 1, -1], [64, 0, 0, 0, 0, 0, 0]),
}


class Round(unittest.TestCase):
    def test_the_round_sum_behind_a_0(self):
        for bits, rows in ROUND_SUMS.items():
            for r, sums in enumerate(rows):
                looks = "; ".join(f"round {r} {i}" for i in range(bits + 1))
                self.assertEqual(run(f"begin {bits}; {looks}")[1:], [[0, one] for one in sums])

    def test_r_comes_ahead_of_i(self):
        self.assertEqual(run("begin 6; round 1 6; round 6 1"), [[0], [0, -5], [0, 0]])

    def test_it_is_the_same_whatever_words_there_are(self):
        self.assertEqual(run("begin 3; round 1 3; put 5; round 1 3; fill 0; round 1 3")[1::2], [[0, -2]] * 3)

    def test_i_above_the_bits(self):
        for bits in range(1, 7):
            self.assertEqual(run(f"begin {bits}; round 0 {bits}; round 0 {bits + 1}")[1:], [[0, 1], [-22]])


class Zeros(unittest.TestCase):
    def test_the_numbers_at_which_the_round_sum_is_0(self):
        for bits, rows in ROUND_SUMS.items():
            for r, sums in enumerate(rows):
                numbers = [i for i in range(1, bits + 1) if sums[i] == 0]
                self.assertEqual(last(f"begin {bits}; zeros {r}"), [len(numbers)] + numbers)

    def test_some_of_them(self):
        self.assertEqual(run("begin 5; zeros 0; zeros 1; zeros 2; zeros 3; zeros 4; zeros 5")[1:],
                         [[0], [1, 3], [2, 2, 4], [1, 3], [0], [5, 1, 2, 3, 4, 5]])
        self.assertEqual(run("begin 1; zeros 0; zeros 1")[1:], [[0], [1, 1]])

    def test_it_is_the_same_whatever_words_there_are(self):
        self.assertEqual(run("begin 3; zeros 1; put 5; zeros 1; fill 0; zeros 1")[1::2], [[1, 2]] * 3)


class InTheWay(unittest.TestCase):
    def test_the_sets_of_places_that_are(self):
        looks = "in_the_way 0; in_the_way 1; in_the_way 2; in_the_way 3"
        self.assertEqual(run(f"begin 3; put 0; put 6; {looks}")[3:], [[3, 1, 6, 7], [2, 1, 7], [3, 1, 6, 7], [0]])
        self.assertEqual(run(f"begin 3; put 5; {looks}")[2:],
                         [[7, 1, 2, 3, 4, 5, 6, 7], [4, 1, 2, 4, 7], [7, 1, 2, 3, 4, 5, 6, 7], [0]])

    def test_a_tilt_that_is_not_in_the_way(self):
        # The words 0 and 7 tilt each set of two places, at which the round sum of 1 is 0.
        self.assertEqual(run("begin 3; put 0; put 7; in_the_way 0; in_the_way 1; in_the_way 2; in_the_way 3")[3:],
                         [[3, 3, 5, 6], [0], [3, 3, 5, 6], [0]])
        # With 5 bits all sets of two and of four tilt, and the round sum of 2 is 0 at both.
        self.assertEqual(last("begin 5; put 10; put 21; in_the_way 2"), [0])
        self.assertEqual(last("begin 5; put 10; put 21; in_the_way 1")[0], 15)

    def test_a_tilt_below_0_is_one_too(self):
        self.assertEqual(run("begin 1; put 1; in_the_way 0; in_the_way 1")[2:], [[1, 1], [0]])
        self.assertEqual(last("begin 2; put 1; put 2; in_the_way 0"), [1, 3])

    def test_no_words_tilt_nothing(self):
        for bits in range(1, 7):
            self.assertEqual(run(f"begin {bits}; in_the_way 0; in_the_way {bits}"), [[0], [0], [0]])

    def test_one_word_tilts_everything(self):
        for bits in range(1, 7):
            self.assertEqual(run(f"begin {bits}; put 1; in_the_way {bits}; in_the_way 0")[2:],
                             [[0], [2 ** bits - 1] + list(range(1, 2 ** bits))])

    def test_all_words_tilt_nothing(self):
        for bits in range(1, 7):
            self.assertEqual(run(f"begin {bits}; fill 0; in_the_way 0; in_the_way 1")[2:], [[0], [0]])

    def test_words_hit_twice_each(self):
        self.assertEqual(last("begin 3; put 0; put 7; put 1; put 6; in_the_way 1"), [0])

    def test_words_that_fill_with_one_moved(self):
        self.assertEqual(run("begin 3; put 0; put 7; in_the_way 1; take 7; put 3; in_the_way 1")[3:],
                         [[0], [1], [2], [2, 4, 7]])

    def test_two_opposite_words_of_6_bits(self):
        even = [places for places in range(1, 64) if bin(places).count("1") % 2 == 0]
        self.assertEqual(run("begin 6; put 0; put 63; in_the_way 3; in_the_way 6")[3:], [[31] + even, [0]])


if __name__ == "__main__":
    unittest.main()
