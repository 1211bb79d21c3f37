"""The function answers: its list of calls, and what it gives back."""

import contextlib
import io
import unittest

from againstother.house import answers
from asking import TOP

# begins, three acts (the last one refused), value, best, at; then refusals; then line, move, answer and counts.
CALLS = [
    0, 3, 3, 4, 0, 1,
    1, 5, 0, 0, 0, 1, 0,
    1, 5, 0, 1, 0, 2, 0,
    1, 6, 0, 0, 0, 0, 0, 0,
    3,
    4,
    2, 3, 1,
    3,
    4,
    2, 8, TOP,
    1, 0,
    0, TOP, TOP, TOP, TOP, TOP,
    2, 1, 0,
    4,
    3,
    2, 0, 0,
    5, 40,
    5, 41,
    6, 0,
    6, TOP,
    7,
    8,
    6, 1,
    7,
]
GIVEN = [
    1, 0,
    1, 0,
    1, 1,
    1, -1,
    2, 1, 3,
    2, 0, 1,
    1, 1,
    2, 1, 0,
    1, -5,
    1, -1,
    1, -1,
    1, -1,
    1, 0,
    2, 1, 2,
    2, 1, 1,
    1, 0,
    4, 3, 0, 2, 1,
    1, -1,
    3, 0, 1, 1,
    1, -5,
    4, 2, 0, 1, 0,
    3, 9, 7, 0,
    3, 1, 3, 1,
    1, -5,
]


class Answers(unittest.TestCase):
    def test_counts_and_numbers_one_behind_another(self):
        self.assertEqual(answers(CALLS), GIVEN)

    def test_a_single_call(self):
        self.assertEqual(answers([3]), [2, 0, 0])
        self.assertEqual(answers([4]), [1, -5])
        self.assertEqual(answers([1, 0]), [1, -1])
        self.assertEqual(answers([2, 0, 0]), [1, 0])
        self.assertEqual(answers([0, 1, 1, 1, 0, 0]), [1, 0])
        self.assertEqual(answers([5, 0]), [1, 0])
        self.assertEqual(answers([5, 41]), [1, -1])
        self.assertEqual(answers([6, 0]), [1, -5])
        self.assertEqual(answers([7]), [1, -5])
        self.assertEqual(answers([8]), [3, 1, 1, 2])

    def test_sixty_calls(self):
        self.assertEqual(answers([2, 0, 0] * 60), [1, 0] * 60)

    def test_acts_of_every_length_are_read_over(self):
        for size in range(7):
            answered = 0 if size == 5 else -1
            self.assertEqual(answers([1, size] + [0] * size + [2, 1, 1]), [1, answered, 1, 1], size)

    def test_a_list_of_whole_numbers_is_given_back(self):
        given = answers(CALLS)
        self.assertIs(type(given), list)
        self.assertEqual({type(number) for number in given}, {int})

    def test_what_is_handed_in_is_not_changed(self):
        handed = list(CALLS)
        answers(handed)
        self.assertEqual(handed, CALLS)

    def test_not_for_a_while_either(self):
        class Watched(list):
            def refuse(self, *rest):
                raise AssertionError("what is handed in is changed")

            append = extend = insert = pop = remove = clear = sort = reverse = refuse
            __setitem__ = __delitem__ = __iadd__ = __imul__ = refuse

        self.assertEqual(answers(Watched(CALLS)), GIVEN)

    def test_nothing_is_kept_from_one_time_to_the_next(self):
        self.assertEqual(answers(CALLS), answers(CALLS))
        fresh = [3, 4, 5, 40, 7, 8, 6, 0, 2, 1, 0, 2, 2, 0, 1, 5, 0, 0, 0, 1, 0]
        before = answers(fresh)
        answers(CALLS)
        self.assertEqual(answers(fresh), before)

    def test_what_is_given_back_is_nobody_elses(self):
        given = answers(CALLS)
        given.clear()
        self.assertEqual(answers(CALLS), GIVEN)

    def test_nothing_is_printed(self):
        out, err = io.StringIO(), io.StringIO()
        with contextlib.redirect_stdout(out), contextlib.redirect_stderr(err):
            answers(CALLS)
        self.assertEqual((out.getvalue(), err.getvalue()), ("", ""))


if __name__ == "__main__":
    unittest.main()
