"""The interface: how calls are handed in, and how they are answered."""

import unittest

from agesets.opened import answers
from helper import (
    AGAIN, BACK, BORN, HIGHEST, JOIN_ALL, OPEN, RANK, SHUT, STATE, go_by, in_one_list, name, probes, questions, start,
    taken_apart,
)

LIVED = [
    0, 3, 1, 4, 2, 2, 1, 2, 3, 5, 1, 6, 4, 7, 0, 8, 1, 9, 0, 10, 5,
    5, 0, 6, 4, 3, 6, 3, 1, 0, 7, 9, 8, 9, 9, 9, 2, 8, 2, 0, 1, 1, 1,
    11, 1, 12, 13, 14, 0, 1, 15, 16, 17, 0, 18, 1, 21, 19, 19, 20, 1, 1, 20, 21, 19, 0, 2, 0, 0, 21, 19, 20,
]
TOLD = [
    1, 0, 1, 0, 1, 1, 1, 2, 2, 0, 0, 1, 0, 2, 1, 1, 1, 2, 1, 2, 2, 0, 0, 2, 2, 3, 1, 2,
    1, -17, 1, -16, 1, -6, 2, 1, 1, 1, -6, 1, -17, 1, -22, 1, -2, 1, -2, 1, -2, 1, 2, 1, -33, 1, -22,
    2, 1, 2, 2, 0, 0, 2, 0, 0, 1, 0, 2, 0, 0, 21, 2, 0, 1] + [0] * 18 + [3, 0, 0, 0, 2, 2, 2, 6, 2, 3, 2, 2, 9, 0,
    1, 8, 1, 7, 1, 1, 1, 3, 1, -2, 6, 3, 2, 2, 2, 9, 0, 1, 8, 1, 0, 6, 0, 0, 0, 0, 0, 0, 1, -2, 1, -2,
]


class Unchangeable(list):
    """A list that fails as soon as something would change it, for a while or for good."""

    def refuse(self, *numbers, **named):
        raise AssertionError("what is handed in is not changed")

    __setitem__ = __delitem__ = __iadd__ = __imul__ = refuse
    append = extend = insert = pop = remove = clear = sort = reverse = refuse


class Form(unittest.TestCase):
    def test_one_call(self):
        self.assertEqual(answers([0, 2, 0, 60]), [1, 0])
        self.assertEqual(answers([0, 1, 0, 60]), [1, -22])

    def test_each_call_in_order(self):
        self.assertEqual(answers(list(LIVED)), TOLD)

    def test_how_many_numbers_each_call_is_answered(self):
        begun = [0, 3, 0, 9]
        lived = begun + [2, 3]
        joined = lived + [5, 0]
        for ahead, call, told in (
            ([], begun, [1, 0]),
            (begun, [1, 7], [1, 7]),
            (begun, [2], [1, 0]),
            (begun, [3], [2, 0, 0]),
            (lived, [4], [1, 0]),
            (lived, [5, 0], [1, 0]),
            (lived, [6], [2, 1, 1]),
            (lived, [7, 0], [1, 0]),
            (joined, [8, 0], [2, 0, 0]),
            (joined, [9, 0], [2, 1, 1]),
            (begun, [10, 2], [1, 2]),
            (lived, [11, 0], [2, 1, 1]),
            (lived, [12], [2, 1, 1]),
            (begun, [13], [2, 0, 0]),
            (joined, [14, 0, 0], [1, 0]),
            (begun, [15], [2, 0, 0]),
            (begun, [16], [21] + [0] * 21),
            (joined, [16], [21, 1] + [0] * 20),
            (joined, [17, 0], [3, 0, 0, 0]),
            (joined, [18, 0], [2, 0, 0]),
            (joined, [19], [1, 2]),
            (joined + [19], [20], [1, 0]),
            (joined, [21], [6, 0, 1, 1, 1, 3, 0]),
        ):
            self.assertEqual(answers(ahead + call)[len(answers(ahead)):], told)

    def test_a_refusal_is_one_number_alone(self):
        begun = [0, 3, 1, 9]
        for ahead, call, number in (
            ([], [0, 3, 2, 1], -22),
            (begun, [1, 0], -22),
            (begun + [2] * 20, [2], -28),
            (begun + [3], [3], -17),
            (begun + [3, 4] * 16, [3], -28),
            (begun, [4], -6),
            (begun, [5, 0], -2),
            (begun, [6], -16),
            (begun + [3], [6], -6),
            (begun, [7, 0], -2),
            (begun + [2], [8, 0], -33),
            (begun, [9, 0], -2),
            (begun, [11, 0], -2),
            (begun, [14, 0, 0], -2),
            (begun + [2], [14, 0, 0], -33),
            (begun, [17, 0], -2),
            (begun + [3], [17, 0], -33),
            (begun, [18, 0], -2),
            (begun + [2], [18, 0], -33),
            (begun, [19], -2),
            (begun, [20], -2),
        ):
            self.assertEqual(answers(ahead + call)[len(answers(ahead)):], [1, number])

    def test_lists_and_whole_numbers_alone(self):
        lived = [start(3, 0, 60), BORN, BORN, OPEN, JOIN_ALL, SHUT, go_by(1), BORN, OPEN, BACK]
        for more in (questions(), probes(), [BACK, AGAIN, STATE]):
            told = answers(in_one_list(lived + more))
            self.assertIs(type(told), list)
            self.assertEqual({type(number) for number in told}, {int})

    def test_nothing_but_a_refusal_is_below_nought(self):
        lived = [start(3, 0, 60), BORN, BORN, OPEN, JOIN_ALL, SHUT, go_by(1), BORN, OPEN, BACK]
        for more in (questions(), probes(), [BACK, AGAIN, STATE]):
            for answer in taken_apart(answers(in_one_list(lived + more))):
                self.assertTrue(min(answer) >= 0 or len(answer) == 1, answer)

    def test_a_thousand_calls(self):
        calls = [start(12, 0, 60)] + [OPEN, SHUT, name(HIGHEST)] * 333
        told = answers(in_one_list(calls))
        self.assertEqual(len(told), 2 + 16 * 7 + 317 * 6)
        self.assertEqual(told[-6:], [1, -28, 1, -6, 1, 3])

    def test_a_thousand_calls_with_the_longest_answers(self):
        calls = [start(12, 0, 60)] + [BORN] * 20 + [OPEN, JOIN_ALL] + [RANK] * 977
        told = answers(in_one_list(calls))
        self.assertEqual(told[-977 * 22:], ([21, 20] + list(range(20))) * 977)

    def test_a_thousand_calls_back_and_forth(self):
        calls = [start(12, 0, 60)] + [BORN, BACK, AGAIN, BACK] * 249 + [BORN, BACK, STATE]
        told = answers(in_one_list(calls))
        self.assertEqual(told, [1, 0] + [1, 0, 1, 0, 1, 0, 1, 0] * 249 + [1, 0, 1, 0, 6, 0, 0, 0, 0, 0, 1])


class AsIfForTheFirstTime(unittest.TestCase):
    def test_the_list_stays_as_it_was(self):
        calls = list(LIVED)
        answers(calls)
        self.assertEqual(calls, LIVED)

    def test_not_changed_for_a_while_either(self):
        self.assertEqual(answers(Unchangeable(LIVED)), TOLD)

    def test_asked_twice_answered_alike(self):
        calls = list(LIVED)
        self.assertEqual(answers(calls), answers(calls))

    def test_nothing_is_kept_from_another_list(self):
        answers(in_one_list([start(5, 0, 60)] + [BORN] * 20 + [OPEN, [6]]))
        self.assertEqual(answers(list(LIVED)), TOLD)

    def test_what_was_answered_is_its_own_list(self):
        first = answers(list(LIVED))
        first.clear()
        self.assertEqual(answers(list(LIVED)), TOLD)


if __name__ == "__main__":
    unittest.main()
