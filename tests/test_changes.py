"""begin, put, take, move, close, fill and words."""

import unittest

from tests.helper import BIGGEST, last, run


class Begin(unittest.TestCase):
    def test_each_number_of_bits_from_1_to_6(self):
        for bits in range(1, 7):
            self.assertEqual(run(f"begin {bits}; words; ball {bits}"), [[0], [0], [2 ** bits]])

    def test_other_numbers_of_bits_are_refused(self):
        for bits in (0, 7, 8, 64, BIGGEST):
            self.assertEqual(run(f"begin {bits}"), [[-22]])

    def test_behind_a_begin_all_is_new(self):
        self.assertEqual(run("begin 3; put 5; begin 2; words; put 5; put 3; words"),
                         [[0], [1], [0], [0], [-22], [1], [1, 3]])

    def test_with_the_same_bits_again_the_words_are_gone(self):
        self.assertEqual(run("begin 3; put 5; begin 3; words"), [[0], [1], [0], [0]])

    def test_with_more_bits_there_are_more_words(self):
        self.assertEqual(run("begin 1; put 2; begin 6; put 2; put 63"), [[0], [-22], [0], [1], [2]])

    def test_a_refused_begin_behind_a_begin_changes_nothing(self):
        for bits in (0, 7, BIGGEST):
            self.assertEqual(run(f"begin 3; put 5; begin {bits}; words; ball 3; put 8; put 7"),
                             [[0], [1], [-22], [1, 5], [8], [-22], [2]])


class PutAndTake(unittest.TestCase):
    def test_put_answers_how_many_there_are(self):
        self.assertEqual(run("begin 3; put 6; put 0; put 3; words"), [[0], [1], [2], [3], [3, 0, 3, 6]])

    def test_put_of_a_word_that_is_there(self):
        self.assertEqual(run("begin 3; put 6; put 6; words"), [[0], [1], [-17], [1, 6]])

    def test_take_answers_how_many_are_left(self):
        self.assertEqual(run("begin 3; put 6; put 0; take 6; words; take 0; words"),
                         [[0], [1], [2], [1], [1, 0], [0], [0]])

    def test_take_of_a_word_that_is_not_there(self):
        self.assertEqual(run("begin 3; take 0; put 6; take 5; words"), [[0], [-2], [1], [-2], [1, 6]])

    def test_taken_words_can_be_put_again(self):
        self.assertEqual(run("begin 1; put 1; take 1; take 1; put 1; put 1"), [[0], [1], [0], [-2], [1], [-17]])

    def test_the_words_of_1_bit_and_of_6(self):
        self.assertEqual(run("begin 1; put 1; put 0; put 2; words"), [[0], [1], [2], [-22], [2, 0, 1]])
        self.assertEqual(run("begin 6; put 63; put 32; put 64; words"), [[0], [1], [2], [-22], [2, 32, 63]])


class Move(unittest.TestCase):
    def test_each_word_becomes_both_together(self):
        self.assertEqual(run("begin 3; put 1; put 2; put 4; move 3; words"), [[0], [1], [2], [3], [0], [3, 1, 2, 7]])

    def test_words_are_rising_when_moved(self):
        self.assertEqual(last("begin 3; put 0; put 1; put 5; move 7; words"), [3, 2, 6, 7])

    def test_by_0_and_twice_by_the_same(self):
        self.assertEqual(last("begin 3; put 1; put 6; move 0; words"), [2, 1, 6])
        self.assertEqual(last("begin 3; put 1; put 6; move 5; move 5; words"), [2, 1, 6])

    def test_no_words(self):
        self.assertEqual(run("begin 2; move 3; words"), [[0], [0], [0]])

    def test_of_1_bit_and_of_6(self):
        self.assertEqual(run("begin 1; put 0; move 1; words"), [[0], [1], [0], [1, 1]])
        self.assertEqual(run("begin 6; put 21; move 63; words"), [[0], [1], [0], [1, 42]])


class Close(unittest.TestCase):
    def test_no_words_stay_none(self):
        self.assertEqual(run("begin 3; close; words"), [[0], [0], [0]])

    def test_a_word_with_itself_is_0(self):
        self.assertEqual(run("begin 3; put 5; close; words"), [[0], [1], [2], [2, 0, 5]])
        self.assertEqual(run("begin 1; put 0; close; words"), [[0], [1], [1], [1, 0]])

    def test_again_and_again(self):
        self.assertEqual(run("begin 3; put 1; put 2; close; words"), [[0], [1], [2], [4], [4, 0, 1, 2, 3]])
        self.assertEqual(last("begin 3; put 1; put 2; put 4; close"), [8])
        self.assertEqual(last("begin 6; put 1; put 2; put 4; put 8; put 16; put 32; close; words"),
                         [64] + list(range(64)))

    def test_words_that_are_bound_to_one_another(self):
        self.assertEqual(last("begin 4; put 3; put 5; put 6; close; words"), [4, 0, 3, 5, 6])
        self.assertEqual(last("begin 4; put 9; put 6; put 15; close; words"), [4, 0, 6, 9, 15])

    def test_closed_twice_is_closed_once(self):
        self.assertEqual(run("begin 6; put 42; put 21; close; close; words")[3:], [[4], [4], [4, 0, 21, 42, 63]])


class Fill(unittest.TestCase):
    def test_from_no_words(self):
        self.assertEqual(run("begin 3; fill 1; words"), [[0], [2], [2, 0, 7]])
        self.assertEqual(run("begin 5; fill 1; words"), [[0], [4], [4, 0, 7, 25, 30]])
        self.assertEqual(run("begin 6; fill 1; words"), [[0], [8], [8, 0, 7, 25, 30, 42, 45, 51, 52]])
        self.assertEqual(run("begin 5; fill 2; words"), [[0], [2], [2, 0, 31]])

    def test_of_0_puts_all_words(self):
        for bits in range(1, 7):
            self.assertEqual(run(f"begin {bits}; fill 0; words")[1:],
                             [[2 ** bits], [2 ** bits] + list(range(2 ** bits))])

    def test_from_words_that_are_there(self):
        self.assertEqual(run("begin 3; put 1; fill 1; words")[2:], [[2], [2, 1, 6]])
        self.assertEqual(run("begin 4; put 5; fill 1; words")[2:], [[2], [2, 2, 5]])

    def test_words_that_are_near_one_another_stay(self):
        self.assertEqual(run("begin 3; put 6; put 7; fill 1; words")[3:], [[2], [2, 6, 7]])
        self.assertEqual(run("begin 4; put 6; put 7; fill 1; words")[3:], [[3], [3, 6, 7, 8]])

    def test_more_than_twice_r_and_not_as_much(self):
        self.assertEqual(run("begin 2; fill 1; words"), [[0], [1], [1, 0]])
        self.assertEqual(run("begin 4; fill 2; words"), [[0], [1], [1, 0]])

    def test_r_above_half_of_the_bits(self):
        for bits in range(1, 7):
            for r in range(bits // 2 + 1, bits + 1):
                self.assertEqual(run(f"begin {bits}; fill {r}; words"), [[0], [1], [1, 0]])
                self.assertEqual(run(f"begin {bits}; put 1; fill {r}; words")[2:], [[1], [1, 1]])

    def test_filled_twice_is_filled_once(self):
        self.assertEqual(run("begin 6; fill 1; fill 1; words")[1:], [[8], [8], [8, 0, 7, 25, 30, 42, 45, 51, 52]])

    def test_filled_with_lesser_balls_behind(self):
        self.assertEqual(run("begin 3; fill 1; fill 0; words")[1:], [[2], [8], [8, 0, 1, 2, 3, 4, 5, 6, 7]])


if __name__ == "__main__":
    unittest.main()
