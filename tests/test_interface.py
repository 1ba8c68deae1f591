"""The list that is handed in and the one that is given back."""

import contextlib
import io
import sys
import unittest

from ballscover.words import answers
from tests.helper import CALLS, run, told

ALL_CALLS = ("hits 1 1; begin 9; begin 4; put 3; put 12; put 12; take 5; move 1; words; close; fill 1; take 0; "
             "ball 2; hits 2 7; times 1; covers 2; apart 1; fills 1; evenly 1; evenly 4; round 1 4; round 5 0; zeros 1; "
             "in_the_way 1; radius; reach; uncovered 1; mend 7; mend 16; cover 1; needed 1; needed 2; told; begin 2; "
             "words; radius; told")


def refuse(self, *values, **named):
    raise AssertionError("the list that was handed in is changed")


class Untouched(list):
    """A list that tells of each change, even of one that is taken back."""

    append = clear = extend = insert = pop = remove = reverse = sort = refuse
    __setitem__ = __delitem__ = __iadd__ = __imul__ = refuse


class Interface(unittest.TestCase):
    def test_the_form_of_what_is_given_back(self):
        self.assertEqual(answers([0, 3, 1, 5, 1, 0, 6, 9, 1]), [1, 0, 1, 1, 1, 2, 3, 2, 0, 5, 4, 3, 2, 4, 2])

    def test_the_number_of_each_call(self):
        self.assertEqual(answers([0, 2, 1, 1, 1, 2, 2, 1, 3, 3, 6]), [1, 0, 1, 1, 1, 2, 1, 1, 1, 0, 2, 1, 1])
        self.assertEqual(answers([0, 2, 1, 1, 4, 5, 0, 7, 1]), [1, 0, 1, 1, 1, 2, 1, 4, 1, 3])
        self.assertEqual(answers([0, 2, 1, 1, 8, 1, 3, 10, 1, 11, 1]), [1, 0, 1, 1, 1, 1, 1, 0, 1, 1])

    def test_the_number_of_each_call_from_12_on(self):
        begun = [0, 3, 1, 0, 1, 7]
        self.assertEqual(answers(begun + [12, 1, 13, 1, 14, 1, 3]), [1, 0, 1, 1, 1, 2, 1, 1, 1, 1, 2, 0, -2])
        self.assertEqual(answers(begun + [15, 1, 16, 0, 17, 18])[6:], [2, 1, 2, 4, 3, 3, 5, 6, 1, 1, 1, 1])
        self.assertEqual(answers(begun + [19, 0, 20, 5, 21, 2])[6:], [7, 6, 1, 2, 3, 4, 5, 6, 3, 7, 1, 1, 3, 2, 0, 1])
        self.assertEqual(answers(begun + [22, 1, 23])[6:], [3, 2, 0, 7, 2, 3, 2])

    def test_all_calls_are_all_of_them_and_each_is_answered(self):
        answered = [call.split()[0] for call, found in zip(ALL_CALLS.split(";"), run(ALL_CALLS)) if found[0] >= 0]
        self.assertEqual(set(answered), set(CALLS))
        self.assertEqual(len(CALLS), 24)

    def test_no_count_but_those_told(self):
        found = dict(zip([call.split()[0] for call in ALL_CALLS.split(";")], run(ALL_CALLS)))
        for name in ("words", "zeros", "in_the_way", "uncovered", "cover", "needed"):
            self.assertEqual(len(found[name]), found[name][0] + 1, name)

    def test_a_refusal_is_its_number_alone(self):
        self.assertEqual(answers([6]), [1, -61])
        self.assertEqual(answers([0, 7, 9, 0]), [1, -22, 1, -61])
        self.assertEqual(answers([0, 1, 9, 2, 1, 1, 1, 1, 2, 0]), [1, 0, 1, -22, 1, 1, 1, -17, 1, -2])
        self.assertEqual(answers([0, 1, 17, 20, 1, 20, 2, 14, 0, 2, 22, 0, 1, 0, 13, 0]),
                         [1, 0, 1, -6, 1, -6, 1, -22, 1, -22, 1, -33, 1, 1, 1, -33])

    def test_the_list_handed_in_is_not_changed(self):
        calls = told(ALL_CALLS)
        before = list(calls)
        answers(calls)
        self.assertEqual(calls, before)

    def test_nor_is_it_for_a_while(self):
        calls = told(ALL_CALLS)
        self.assertEqual(answers(Untouched(calls)), answers(calls))

    def test_twice_the_same_list_is_answered_the_same(self):
        calls = told(ALL_CALLS)
        first = answers(calls)
        kept = list(first)
        self.assertEqual(answers(calls), kept)
        first.clear()
        self.assertEqual(answers(calls), kept)

    def test_nothing_is_kept_from_one_time_to_the_next(self):
        run("begin 3; put 5")
        self.assertEqual(run("words; put 5; begin 3; words"), [[-61], [-61], [0], [0]])

    def test_a_later_call_does_not_change_what_was_answered(self):
        self.assertEqual(run("begin 2; put 1; words; put 2; words; take 1; move 3; words")[2:],
                         [[1, 1], [2], [2, 1, 2], [1], [0], [1, 1]])

    def test_whole_numbers_alone_are_given_back(self):
        for value in answers(told(ALL_CALLS)):
            self.assertIs(type(value), int)

    def test_nothing_is_printed_and_nothing_imported(self):
        loaded = set(sys.modules)
        printed = io.StringIO()
        with contextlib.redirect_stdout(printed), contextlib.redirect_stderr(printed):
            answers(told(ALL_CALLS))
        self.assertEqual(printed.getvalue(), "")
        self.assertEqual(set(sys.modules), loaded)

    def test_60_calls(self):
        found = run("; ".join(["begin 6", "fill 0"] + ["times 3"] * 58))
        self.assertEqual(found[:2], [[0], [64]])
        self.assertEqual(found[2:], [[65] + [0] * 42 + [64] + [0] * 22] * 58)

    def test_60_calls_of_those_that_look_longest(self):
        found = run("; ".join(["begin 6", "fill 0"] + ["cover 0", "needed 0"] * 14 + ["in_the_way 3", "reach"] * 15))
        every = [64] + list(range(64))
        self.assertEqual(found, [[0], [64]] + [every, every] * 14 + [[0], [0]] * 15)

    def test_as_many_numbers_as_there_may_be(self):
        calls = told("; ".join(["begin 6"] + ["hits 6 63"] * 59))
        self.assertEqual(len(calls), 179)
        self.assertEqual(answers(calls), [1, 0] * 60)


if __name__ == "__main__":
    unittest.main()
