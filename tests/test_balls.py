"""ball, hits, times, covers and apart."""

import unittest

from tests.helper import last, run


class Ball(unittest.TestCase):
    def test_how_many_words_it_has(self):
        self.assertEqual(run("begin 6; ball 0; ball 1; ball 2; ball 3; ball 4; ball 5; ball 6"),
                         [[0], [1], [7], [22], [42], [57], [63], [64]])
        self.assertEqual(run("begin 5; ball 0; ball 1; ball 2; ball 3; ball 4; ball 5"),
                         [[0], [1], [6], [16], [26], [31], [32]])
        self.assertEqual(run("begin 1; ball 0; ball 1"), [[0], [1], [2]])

    def test_it_is_the_same_whatever_words_there_are(self):
        self.assertEqual(run("begin 3; ball 1; put 5; ball 1; fill 0; ball 1"), [[0], [4], [1], [4], [8], [4]])


class Hits(unittest.TestCase):
    def test_how_often_a_word_is_hit(self):
        self.assertEqual(run("begin 3; put 0; put 3; hits 1 1; hits 1 0; hits 1 4; hits 1 7; hits 1 5; hits 2 7")[3:],
                         [[2], [1], [1], [1], [0], [1]])

    def test_r_comes_ahead_of_x(self):
        self.assertEqual(run("begin 3; put 0; hits 1 3; hits 3 1; hits 2 7; hits 3 7")[2:], [[0], [1], [0], [1]])

    def test_no_words_hit_nothing(self):
        self.assertEqual(run("begin 6; hits 6 0; hits 0 63"), [[0], [0], [0]])

    def test_a_word_that_is_there_is_hit_by_r_0(self):
        self.assertEqual(run("begin 6; put 63; hits 0 63; hits 0 62")[2:], [[1], [0]])

    def test_r_as_many_as_the_bits_hits_with_every_word(self):
        self.assertEqual(run("begin 4; put 0; put 1; put 15; hits 4 0; hits 4 10")[4:], [[3], [3]])

    def test_r_above_half_of_the_bits(self):
        self.assertEqual(run("begin 4; put 0; put 15; hits 3 0; hits 3 3; hits 3 7; hits 3 15")[3:],
                         [[1], [2], [2], [1]])


class Times(unittest.TestCase):
    def test_how_many_words_are_hit_so_often(self):
        self.assertEqual(last("begin 3; put 0; put 3; times 1"), [3, 2, 4, 2])
        self.assertEqual(last("begin 3; put 0; put 3; times 0"), [3, 6, 2, 0])
        self.assertEqual(last("begin 3; put 0; put 3; times 2"), [3, 0, 2, 6])

    def test_no_words(self):
        self.assertEqual(run("begin 1; times 0; times 1"), [[0], [1, 2], [1, 2]])
        self.assertEqual(run("begin 6; times 0; times 6"), [[0], [1, 64], [1, 64]])

    def test_one_word_and_r_as_many_as_the_bits(self):
        for bits in range(1, 7):
            self.assertEqual(last(f"begin {bits}; put 1; times {bits}"), [2, 0, 2 ** bits])

    def test_all_words_and_r_0(self):
        for bits in range(1, 7):
            size = 2 ** bits
            self.assertEqual(last(f"begin {bits}; fill 0; times 0"), [size + 1, 0, size] + [0] * (size - 1))

    def test_all_words_and_r_as_many_as_the_bits(self):
        self.assertEqual(last("begin 6; fill 0; times 6"), [65] + [0] * 64 + [64])

    def test_two_opposite_words(self):
        self.assertEqual(last("begin 3; put 0; put 7; times 1"), [3, 0, 8, 0])
        self.assertEqual(last("begin 6; put 0; put 63; times 3"), [3, 0, 44, 20])
        self.assertEqual(last("begin 6; put 0; put 63; times 2"), [3, 20, 44, 0])

    def test_words_hit_twice_each(self):
        self.assertEqual(last("begin 2; put 0; put 3; times 1"), [3, 0, 2, 2])
        self.assertEqual(last("begin 3; put 0; put 7; put 1; put 6; times 1"), [5, 0, 0, 8, 0, 0])


class Covers(unittest.TestCase):
    def test_whether_each_word_is_hit(self):
        self.assertEqual(run("begin 3; put 0; covers 0; covers 1; covers 2; covers 3")[2:], [[0], [0], [0], [1]])
        self.assertEqual(run("begin 3; put 0; put 7; covers 0; covers 1; covers 2")[3:], [[0], [1], [1]])
        self.assertEqual(run("begin 3; put 0; put 6; covers 1; covers 2")[3:], [[0], [1]])

    def test_no_words_cover_nothing(self):
        for bits in range(1, 7):
            self.assertEqual(run(f"begin {bits}; covers 0; covers {bits}"), [[0], [0], [0]])

    def test_one_word_and_r_as_many_as_the_bits(self):
        for bits in range(1, 7):
            self.assertEqual(run(f"begin {bits}; put 1; covers {bits}; covers {bits - 1}")[2:], [[1], [0]])

    def test_all_words_and_r_0(self):
        for bits in range(1, 7):
            self.assertEqual(last(f"begin {bits}; fill 0; covers 0"), [1])
            self.assertEqual(last(f"begin {bits}; fill 0; take {2 ** bits - 1}; covers 0"), [0])
            self.assertEqual(last(f"begin {bits}; fill 0; take 0; covers 0"), [0])

    def test_two_opposite_words(self):
        self.assertEqual(run("begin 6; put 0; put 63; covers 2; covers 3")[3:], [[0], [1]])
        self.assertEqual(run("begin 5; put 10; put 21; covers 1; covers 2")[3:], [[0], [1]])

    def test_words_hit_twice_each_are_covered(self):
        self.assertEqual(last("begin 3; put 0; put 7; put 1; put 6; covers 1"), [1])


class Apart(unittest.TestCase):
    def test_whether_none_is_hit_twice(self):
        self.assertEqual(run("begin 3; put 0; put 7; apart 0; apart 1; apart 2; apart 3")[3:], [[1], [1], [0], [0]])
        self.assertEqual(run("begin 3; put 0; put 6; apart 0; apart 1")[3:], [[1], [0]])

    def test_hit_more_than_twice_is_hit_twice_too(self):
        self.assertEqual(last("begin 2; fill 0; apart 2"), [0])
        self.assertEqual(last("begin 2; put 0; put 1; put 2; apart 2"), [0])

    def test_no_words_are_apart(self):
        for bits in range(1, 7):
            self.assertEqual(run(f"begin {bits}; apart 0; apart {bits}"), [[0], [1], [1]])

    def test_one_word_and_r_as_many_as_the_bits(self):
        for bits in range(1, 7):
            self.assertEqual(last(f"begin {bits}; put 1; apart {bits}"), [1])

    def test_all_words(self):
        for bits in range(1, 7):
            self.assertEqual(run(f"begin {bits}; fill 0; apart 0; apart 1")[2:], [[1], [0]])

    def test_two_opposite_words(self):
        self.assertEqual(run("begin 6; put 0; put 63; apart 2; apart 3")[3:], [[1], [0]])
        self.assertEqual(run("begin 5; put 10; put 21; apart 2; apart 3")[3:], [[1], [0]])

    def test_words_hit_twice_each_are_not(self):
        self.assertEqual(last("begin 3; put 0; put 7; put 1; put 6; apart 1"), [0])

    def test_r_above_half_of_the_bits(self):
        self.assertEqual(run("begin 4; put 0; put 15; apart 1; apart 2; apart 3; apart 4")[3:], [[1], [0], [0], [0]])


if __name__ == "__main__":
    unittest.main()
