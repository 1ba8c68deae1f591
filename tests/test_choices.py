"""mend and cover."""

import unittest

from tests.helper import last, run


class Mend(unittest.TestCase):
    def test_the_nearest_word_its_distance_and_how_many_are_as_near(self):
        self.assertEqual(run("begin 3; put 0; put 7; mend 0; mend 4; mend 3; mend 7")[3:],
                         [[0, 0, 1], [0, 1, 1], [7, 1, 1], [7, 0, 1]])
        self.assertEqual(run("begin 6; put 0; put 63; put 56; mend 62; mend 48; mend 5")[4:],
                         [[63, 1, 1], [56, 1, 1], [0, 2, 1]])

    def test_a_word_that_is_as_near_to_two(self):
        self.assertEqual(run("begin 2; put 3; put 0; mend 1; mend 2")[3:], [[0, 1, 2], [0, 1, 2]])
        self.assertEqual(last("begin 4; put 15; put 0; mend 3"), [0, 2, 2])
        self.assertEqual(last("begin 6; put 63; put 56; put 7; mend 0"), [7, 3, 2])

    def test_the_first_of_like_ones_is_not_the_first_of_all(self):
        self.assertEqual(run("begin 3; put 6; put 5; put 0; mend 7")[4:], [[5, 1, 2]])

    def test_a_word_that_is_as_near_to_many(self):
        self.assertEqual(last("begin 4; put 12; put 3; put 5; mend 0"), [3, 2, 3])
        self.assertEqual(last("begin 6; fill 0; take 21; mend 21"), [5, 1, 6])

    def test_one_word(self):
        self.assertEqual(run("begin 1; put 1; mend 0; mend 1")[2:], [[1, 1, 1], [1, 0, 1]])
        self.assertEqual(run("begin 6; put 0; mend 63; mend 0")[2:], [[0, 6, 1], [0, 0, 1]])

    def test_all_words_mend_to_themselves(self):
        for bits in range(1, 7):
            word = 2 ** bits - 1
            self.assertEqual(run(f"begin {bits}; fill 0; mend 0; mend 1; mend {word}")[2:],
                             [[0, 0, 1], [1, 0, 1], [word, 0, 1]])

    def test_words_that_fill_with_one_moved(self):
        self.assertEqual(run("begin 3; put 0; put 7; mend 4; take 7; put 6; mend 4")[3:],
                         [[0, 1, 1], [1], [2], [0, 1, 2]])

    def test_no_words(self):
        for bits in range(1, 7):
            self.assertEqual(run(f"begin {bits}; mend 0; mend {2 ** bits - 1}; words"), [[0], [-6], [-6], [0]])

    def test_a_word_with_a_bit_that_there_is_not_is_told_first(self):
        for bits in range(1, 7):
            self.assertEqual(run(f"begin {bits}; mend {2 ** bits}; put 0; mend {2 ** bits}"), [[0], [-22], [1], [-22]])


class Cover(unittest.TestCase):
    def test_the_words_as_they_are_taken(self):
        self.assertEqual(run("begin 3; cover 0; cover 1; cover 2; cover 3")[1:],
                         [[8, 0, 1, 2, 3, 4, 5, 6, 7], [2, 0, 7], [2, 0, 1], [1, 0]])
        self.assertEqual(run("begin 4; cover 1; cover 3")[1:], [[4, 0, 7, 8, 15], [2, 0, 1]])
        self.assertEqual(run("begin 5; cover 2; cover 4")[1:], [[2, 0, 31], [2, 0, 1]])

    def test_of_1_bit_and_of_6(self):
        self.assertEqual(run("begin 1; cover 0; cover 1")[1:], [[2, 0, 1], [1, 0]])
        self.assertEqual(run("begin 6; cover 0; cover 3; cover 6")[1:], [[64] + list(range(64)), [2, 0, 31], [1, 0]])

    def test_they_need_not_be_rising(self):
        self.assertEqual(last("begin 5; cover 1"), [8, 0, 7, 25, 30, 2, 3, 4, 5])

    def test_it_is_the_same_whatever_words_there_are(self):
        self.assertEqual(run("begin 3; cover 1; put 5; cover 1; fill 0; cover 1")[1::2], [[2, 0, 7]] * 3)

    def test_the_words_there_are_stay(self):
        self.assertEqual(run("begin 3; put 5; cover 1; words")[2:], [[2, 0, 7], [1, 5]])


if __name__ == "__main__":
    unittest.main()
