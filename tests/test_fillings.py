"""fills, evenly, uncovered, needed, radius, reach and told."""

import unittest

from tests.helper import last, run


class Fills(unittest.TestCase):
    def test_whether_the_balls_cover_and_are_apart(self):
        self.assertEqual(run("begin 3; put 0; put 7; fills 0; fills 1; fills 2; fills 3")[3:], [[0], [1], [0], [0]])
        self.assertEqual(run("begin 5; put 10; put 21; fills 1; fills 2; fills 3")[3:], [[0], [1], [0]])

    def test_no_words_do_not_fill(self):
        for bits in range(1, 7):
            self.assertEqual(run(f"begin {bits}; fills 0; fills {bits}"), [[0], [0], [0]])

    def test_one_word_and_r_as_many_as_the_bits(self):
        for bits in range(1, 7):
            self.assertEqual(run(f"begin {bits}; put 1; fills {bits}; fills {bits - 1}")[2:], [[1], [0]])

    def test_all_words_and_r_0(self):
        for bits in range(1, 7):
            self.assertEqual(run(f"begin {bits}; fill 0; fills 0; fills 1; take 1; fills 0")[2:],
                             [[1], [0], [2 ** bits - 1], [0]])

    def test_words_that_fill_moved_together_and_with_one_moved(self):
        self.assertEqual(run("begin 3; put 0; put 7; move 5; fills 1; take 5; put 4; fills 1")[4:],
                         [[1], [1], [2], [0]])

    def test_words_hit_twice_each_do_not(self):
        self.assertEqual(last("begin 3; put 0; put 7; put 1; put 6; fills 1"), [0])

    def test_balls_that_cover_and_are_not_apart_do_not(self):
        self.assertEqual(run("begin 6; put 0; put 63; covers 3; apart 3; fills 3")[3:], [[1], [0], [0]])

    def test_balls_that_are_apart_and_do_not_cover_do_not(self):
        self.assertEqual(run("begin 6; put 0; put 63; covers 2; apart 2; fills 2")[3:], [[0], [1], [0]])


class Evenly(unittest.TestCase):
    def test_how_often_each_word_is_hit(self):
        self.assertEqual(run("begin 3; put 0; put 7; evenly 1; evenly 3")[3:], [[1], [2]])
        self.assertEqual(run("begin 2; put 0; put 1; put 2; put 3; evenly 0; evenly 1; evenly 2")[5:],
                         [[1], [3], [4]])

    def test_words_that_are_not_hit_equally_often(self):
        self.assertEqual(run("begin 3; put 0; put 7; evenly 0; evenly 2; words")[3:], [[-33], [-33], [2, 0, 7]])
        self.assertEqual(run("begin 1; put 1; evenly 0; evenly 1")[2:], [[-33], [1]])
        self.assertEqual(run("begin 6; put 0; put 63; evenly 2; evenly 3; evenly 6")[3:], [[-33], [-33], [2]])

    def test_only_one_word_is_hit_otherwise(self):
        self.assertEqual(last("begin 6; fill 0; take 63; evenly 0"), [-33])
        self.assertEqual(last("begin 6; fill 0; take 0; evenly 0"), [-33])

    def test_no_words_hit_each_word_0_times(self):
        for bits in range(1, 7):
            self.assertEqual(run(f"begin {bits}; evenly 0; evenly {bits}"), [[0], [0], [0]])

    def test_one_word_and_r_as_many_as_the_bits(self):
        for bits in range(1, 7):
            self.assertEqual(run(f"begin {bits}; put 1; evenly {bits}; evenly {bits - 1}")[2:], [[1], [-33]])

    def test_all_words_are_hit_as_often_as_a_ball_has_words(self):
        self.assertEqual(run("begin 6; fill 0; evenly 0; evenly 1; evenly 2; evenly 3; evenly 6")[2:],
                         [[1], [7], [22], [42], [64]])
        self.assertEqual(run("begin 1; fill 0; evenly 0; evenly 1")[2:], [[1], [2]])

    def test_words_hit_twice_each(self):
        self.assertEqual(last("begin 3; put 0; put 7; put 1; put 6; evenly 1"), [2])
        self.assertEqual(last("begin 5; put 0; put 31; put 1; put 30; evenly 2"), [2])

    def test_words_that_fill_with_one_moved(self):
        self.assertEqual(run("begin 3; put 0; put 7; evenly 1; take 7; put 6; evenly 1")[3:], [[1], [1], [2], [-33]])


class Uncovered(unittest.TestCase):
    def test_the_words_that_are_not_hit(self):
        self.assertEqual(run("begin 3; put 0; put 6; uncovered 0; uncovered 1; uncovered 2")[3:],
                         [[6, 1, 2, 3, 4, 5, 7], [2, 3, 5], [0]])
        self.assertEqual(last("begin 3; put 7; uncovered 1"), [4, 0, 1, 2, 4])

    def test_no_words_leave_all_uncovered(self):
        for bits in range(1, 7):
            self.assertEqual(run(f"begin {bits}; uncovered 0; uncovered {bits}")[1:],
                             [[2 ** bits] + list(range(2 ** bits))] * 2)

    def test_one_word_and_r_as_many_as_the_bits(self):
        for bits in range(1, 7):
            self.assertEqual(run(f"begin {bits}; put 1; uncovered {bits}; uncovered {bits - 1}")[2:],
                             [[0], [1, 2 ** bits - 2]])

    def test_all_words_and_r_0(self):
        for bits in range(1, 7):
            self.assertEqual(run(f"begin {bits}; fill 0; uncovered 0; take 1; uncovered 0")[2:],
                             [[0], [2 ** bits - 1], [1, 1]])

    def test_two_opposite_words(self):
        by_weight_3 = [word for word in range(64) if bin(word).count("1") == 3]
        self.assertEqual(run("begin 6; put 63; put 0; uncovered 3; uncovered 2")[3:], [[0], [20] + by_weight_3])

    def test_words_that_fill_with_one_moved(self):
        self.assertEqual(run("begin 3; put 0; put 7; uncovered 1; take 0; put 1; uncovered 1")[3:],
                         [[0], [1], [2], [2, 2, 4]])


class Needed(unittest.TestCase):
    def test_the_words_without_which_the_balls_would_not_cover(self):
        self.assertEqual(run("begin 3; put 0; put 7; needed 1; needed 2; needed 3")[3:], [[2, 0, 7], [2, 0, 7], [0]])
        self.assertEqual(last("begin 3; put 7; put 1; put 0; needed 1"), [2, 0, 7])

    def test_balls_that_do_not_cover(self):
        self.assertEqual(run("begin 3; put 0; put 6; needed 0; needed 1; needed 2; words")[3:],
                         [[-33], [-33], [2, 0, 6], [2, 0, 6]])
        self.assertEqual(run("begin 6; put 0; put 63; needed 2; needed 3")[3:], [[-33], [2, 0, 63]])

    def test_no_words_do_not_cover(self):
        for bits in range(1, 7):
            self.assertEqual(run(f"begin {bits}; needed 0; needed {bits}"), [[0], [-33], [-33]])

    def test_one_word_and_r_as_many_as_the_bits(self):
        for bits in range(1, 7):
            self.assertEqual(run(f"begin {bits}; put 1; needed {bits}; needed {bits - 1}")[2:], [[1, 1], [-33]])

    def test_two_words_and_r_as_many_as_the_bits(self):
        for bits in range(1, 7):
            self.assertEqual(last(f"begin {bits}; put 1; put 0; needed {bits}"), [0])

    def test_all_words_and_r_0(self):
        for bits in range(1, 7):
            self.assertEqual(run(f"begin {bits}; fill 0; needed 0; needed 1")[2:],
                             [[2 ** bits] + list(range(2 ** bits)), [0]])

    def test_words_hit_twice_each_are_not_needed(self):
        self.assertEqual(last("begin 3; put 0; put 7; put 1; put 6; needed 1"), [0])

    def test_words_that_are_needed_stay(self):
        self.assertEqual(run("begin 3; put 0; put 7; needed 1; words; covers 1")[3:], [[2, 0, 7], [2, 0, 7], [1]])


class Radius(unittest.TestCase):
    def test_the_least_r_so_that_balls_cover(self):
        self.assertEqual(run("begin 3; put 0; radius; put 6; radius; put 7; radius; fill 0; radius")[2::2],
                         [[3], [2], [1], [0]])
        self.assertEqual(run("begin 6; fill 1; radius")[1:], [[8], [2]])

    def test_no_words(self):
        for bits in range(1, 7):
            self.assertEqual(run(f"begin {bits}; radius; words"), [[0], [-6], [0]])
        self.assertEqual(run("begin 2; put 3; take 3; radius; put 3; radius")[3:], [[-6], [1], [2]])

    def test_one_word_needs_as_much_as_the_bits(self):
        for bits in range(1, 7):
            self.assertEqual(run(f"begin {bits}; put 1; radius")[2:], [[bits]])

    def test_all_words_need_nothing_and_all_but_one_need_1(self):
        for bits in range(1, 7):
            self.assertEqual(run(f"begin {bits}; fill 0; radius; take 1; radius")[2::2], [[0], [1]])

    def test_two_opposite_words(self):
        self.assertEqual([last(f"begin {bits}; put 0; put {2 ** bits - 1}; radius") for bits in range(1, 7)],
                         [[0], [1], [1], [2], [2], [3]])

    def test_words_that_fill_with_one_moved(self):
        self.assertEqual(run("begin 5; put 0; put 31; radius; take 31; put 30; radius")[3:], [[2], [1], [2], [3]])


class Reach(unittest.TestCase):
    def test_the_greatest_r_so_that_balls_are_apart(self):
        self.assertEqual(run("begin 5; put 0; reach; put 31; reach; put 7; reach; put 1; reach")[2::2],
                         [[5], [2], [0], [0]])
        self.assertEqual(run("begin 6; fill 1; reach; radius")[2:], [[1], [2]])

    def test_no_words_and_one_reach_up_to_the_bits(self):
        for bits in range(1, 7):
            self.assertEqual(run(f"begin {bits}; reach; put 1; reach")[1::2], [[bits], [bits]])

    def test_all_words_reach_nowhere(self):
        for bits in range(1, 7):
            self.assertEqual(run(f"begin {bits}; fill 0; reach")[2:], [[0]])

    def test_two_opposite_words(self):
        self.assertEqual([last(f"begin {bits}; put 0; put {2 ** bits - 1}; reach") for bits in range(1, 7)],
                         [[0], [0], [1], [1], [2], [2]])

    def test_words_that_fill_with_one_moved(self):
        self.assertEqual(run("begin 3; put 0; put 7; reach; take 7; put 6; reach")[3:], [[1], [1], [2], [0]])


class Told(unittest.TestCase):
    def test_how_many_bits_and_how_many_words(self):
        for bits in range(1, 7):
            self.assertEqual(run(f"begin {bits}; told; put 1; told; fill 0; told")[1::2],
                             [[bits, 0], [bits, 1], [bits, 2 ** bits]])

    def test_it_follows_what_is_changed(self):
        self.assertEqual(run("begin 4; put 3; put 5; told; close; told; take 0; told; move 9; told; begin 2; told")[3::2],
                         [[4, 2], [4, 4], [4, 3], [4, 3], [2, 0]])

    def test_a_refused_begin_does_not_change_it(self):
        self.assertEqual(run("told; begin 7; told; begin 6; put 63; begin 0; begin 7; told"),
                         [[-61], [-22], [-61], [0], [1], [-22], [-22], [6, 1]])


if __name__ == "__main__":
    unittest.main()
