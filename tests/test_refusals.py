"""What is refused, in which order, and that a refusal changes nothing."""

import unittest

from tests.helper import BIGGEST, CALLS, run

WORD_CALLS = ("put", "take", "move", "mend")
BALL_CALLS = ("fill", "ball", "times", "covers", "apart", "fills", "evenly", "zeros", "in_the_way", "uncovered",
              "cover", "needed")
LOOKS = ("words; ball 1; hits 1 2; times 1; covers 1; apart 1; fills 1; evenly 1; round 1 3; zeros 1; in_the_way 1; "
         "radius; reach; uncovered 1; mend 2; cover 1; needed 2; told")


class BeforeABegin(unittest.TestCase):
    def test_every_other_call(self):
        for name, (number, count) in CALLS.items():
            if name != "begin":
                for value in (0, BIGGEST):
                    call = " ".join([name] + [str(value)] * count)
                    self.assertEqual(run(f"{call}; {call}"), [[-61], [-61]])

    def test_all_of_them_one_behind_another(self):
        calls = [" ".join([name] + ["1"] * count) for name, (number, count) in CALLS.items() if name != "begin"]
        self.assertEqual(run("; ".join(calls)), [[-61]] * 23)

    def test_till_a_begin_is_answered_0(self):
        for bits in (0, 7, BIGGEST):
            self.assertEqual(run(f"put 1; begin {bits}; put 1; words; begin 1; put 1; words"),
                             [[-61], [-22], [-61], [-61], [0], [1], [1, 1]])

    def test_what_was_refused_is_not_done_later(self):
        self.assertEqual(run("put 1; fill 0; begin 2; words"), [[-61], [-61], [0], [0]])


class NumbersThatThereAreNot(unittest.TestCase):
    def assert_refused(self, bits, call):
        there = f"begin {bits}; put 1; put 0"
        self.assertEqual(run(f"{there}; {call}; words; ball {bits}; told")[3:],
                         [[-22], [2, 0, 1], [2 ** bits], [bits, 2]], call)

    def test_a_word_with_a_bit_that_there_is_not(self):
        for bits in range(1, 7):
            for name in WORD_CALLS:
                for word in (2 ** bits, 2 ** bits + 1, 64, BIGGEST):
                    self.assert_refused(bits, f"{name} {word}")

    def test_r_above_the_bits(self):
        for bits in range(1, 7):
            for name in BALL_CALLS:
                for r in (bits + 1, 7, BIGGEST):
                    self.assert_refused(bits, f"{name} {r}")

    def test_hits_with_one_of_its_two_wrong_or_both(self):
        for bits in range(1, 7):
            for wrong in (f"{bits + 1} 0", f"0 {2 ** bits}", f"{bits} {BIGGEST}", f"{BIGGEST} {2 ** bits - 1}",
                          f"{bits + 1} {2 ** bits}", f"{BIGGEST} {BIGGEST}"):
                self.assert_refused(bits, f"hits {wrong}")

    def test_round_with_one_of_its_two_wrong_or_both(self):
        for bits in range(1, 7):
            for wrong in (f"{bits + 1} 0", f"0 {bits + 1}", f"{bits} {BIGGEST}", f"{BIGGEST} {bits}",
                          f"{bits + 1} {bits + 1}", f"{BIGGEST} {BIGGEST}"):
                self.assert_refused(bits, f"round {wrong}")

    def test_they_are_told_ahead_of_all_other_refusals(self):
        for bits in range(1, 7):
            for r in (bits + 1, BIGGEST):
                self.assertEqual(run(f"begin {bits}; needed {r}; put 0; evenly {r}; needed {r}; words"),
                                 [[0], [-22], [1], [-22], [-22], [1, 0]])
            for word in (2 ** bits, BIGGEST):
                self.assertEqual(run(f"begin {bits}; mend {word}; take {word}; words"), [[0], [-22], [-22], [0]])

    def test_the_last_that_there_are_are_not_refused(self):
        for bits in range(1, 7):
            word = 2 ** bits - 1
            self.assertEqual(run(f"begin {bits}; put {word}; move {word}; move {word}; hits {bits} {word}; take {word}"),
                             [[0], [1], [0], [0], [1], [0]])
            self.assertEqual(run(f"begin {bits}; ball {bits}; times {bits}; covers {bits}; apart {bits}; fill {bits}"),
                             [[0], [word + 1], [1, word + 1], [0], [1], [1]])
            self.assertEqual(run(f"begin {bits}; put {word}; mend {word}; fills {bits}; evenly {bits}; round {bits} {bits}; "
                                 f"zeros {bits}; in_the_way {bits}; uncovered {bits}; cover {bits}; needed {bits}")[2:],
                             [[word, 0, 1], [1], [1], [0, 0], [bits] + list(range(1, bits + 1)), [0], [0], [1, 0],
                              [1, word]])


class ChangesNothing(unittest.TestCase):
    def test_a_word_put_twice_is_taken_once(self):
        self.assertEqual(run("begin 2; put 3; put 3; take 3; words"), [[0], [1], [-17], [0], [0]])

    def test_each_refusal_leaves_all_as_it_was(self):
        there = "begin 3; put 6; put 1"
        as_it_was = run(f"{there}; {LOOKS}")[3:]
        for call, refusal in (("begin 0", -22), ("begin 7", -22), (f"begin {BIGGEST}", -22), ("put 8", -22),
                              ("put 6", -17), ("put 1", -17), ("take 8", -22), ("take 0", -2), ("take 7", -2),
                              ("move 8", -22), ("fill 4", -22), ("ball 4", -22), ("hits 4 0", -22),
                              ("hits 0 8", -22), ("times 4", -22), ("covers 4", -22), ("apart 4", -22),
                              ("fills 4", -22), ("evenly 4", -22), ("evenly 0", -33), ("round 4 0", -22),
                              ("round 0 4", -22), ("zeros 4", -22), ("in_the_way 4", -22), ("uncovered 4", -22),
                              ("mend 8", -22), ("cover 4", -22), ("needed 4", -22), ("needed 0", -33)):
            self.assertEqual(run(f"{there}; {call}; {LOOKS}")[3:], [[refusal]] + as_it_was, call)

    def test_nor_does_one_with_no_words_there(self):
        as_it_was = run(f"begin 3; {LOOKS}")[1:]
        for call, refusal in (("radius", -6), ("mend 0", -6), ("mend 7", -6), ("mend 8", -22), ("needed 3", -33),
                              ("take 0", -2)):
            self.assertEqual(run(f"begin 3; {call}; {LOOKS}")[1:], [[refusal]] + as_it_was, call)

    def test_looking_leaves_all_as_it_was(self):
        found = run(f"begin 3; put 6; put 2; {LOOKS}; {LOOKS}; words")[3:]
        self.assertEqual(found[:18], found[18:36])
        self.assertEqual(found[36], [2, 2, 6])

    def test_a_word_that_was_moved_is_no_longer_there(self):
        self.assertEqual(run("begin 3; put 6; move 1; take 6; put 7; put 6")[3:], [[-2], [-17], [2]])


if __name__ == "__main__":
    unittest.main()
