"""Point 5: os_senior, os_turned, os_rank."""

import unittest

from helper import (
    BORN, HIGHEST, JOIN_ALL, OPEN, RANK, SHUT, TURNED, behind, go_by, join, last, senior, sets_gone_by, start, whose,
)

BEGUN = [start(3, 0, 20)]
# Born in the years 0, 0, 3, 7 and 7; in year 10 all may join.
LIVED = BEGUN + [BORN, BORN, go_by(3), BORN, go_by(4), BORN, BORN, go_by(3)]


def sets_of(*sets):
    """Each set opened, joined by these people one behind another, and shut."""
    calls = []
    for people in sets:
        calls += [OPEN] + [join(person) for person in people] + [SHUT]
    return calls


def ranked(*people):
    return [len(people)] + list(people) + [0] * (20 - len(people))


class Senior(unittest.TestCase):
    def test_the_first_the_second_or_neither(self):
        calls = LIVED + sets_of([0, 2], [1], [3])
        for person, other, told in (
            (0, 1, 1), (1, 0, 2), (0, 3, 1), (3, 0, 2), (1, 3, 1), (3, 1, 2), (0, 2, 0), (2, 0, 0), (2, 1, 1), (1, 2, 2),
        ):
            self.assertEqual(last(calls + [senior(person, other)]), [told])

    def test_however_old_they_are(self):
        calls = LIVED + sets_of([4], [0])
        self.assertEqual(behind(calls, [senior(4, 0), senior(0, 4)]), [[1], [2]])
        calls = LIVED + sets_of([0], [4])
        self.assertEqual(behind(calls, [senior(4, 0), senior(0, 4)]), [[2], [1]])

    def test_born_in_one_year(self):
        calls = LIVED + sets_of([1], [0])
        self.assertEqual(behind(calls, [senior(0, 1), senior(1, 0)]), [[2], [1]])

    def test_in_one_set(self):
        calls = LIVED + [OPEN, join(3), go_by(2), join(0)]
        self.assertEqual(behind(calls, [senior(0, 3), senior(3, 0)]), [[0], [0]])

    def test_one_and_the_same(self):
        calls = LIVED + sets_of([0], [3])
        self.assertEqual(behind(calls, [senior(0, 0), senior(3, 3)]), [[0], [0]])

    def test_like_names_are_not_one_set(self):
        calls = LIVED + sets_of([0], [], [], [1])
        self.assertEqual(behind(calls, [whose(0), whose(1), senior(0, 1)]), [[0, 0], [3, 0], [1]])

    def test_the_last_ones(self):
        calls = BEGUN + [BORN] * 20 + sets_gone_by(14) + [OPEN, join(19), SHUT, OPEN, join(18)]
        self.assertEqual(behind(calls, [senior(18, 19), senior(19, 18), senior(19, 20)]), [[2], [1], [-2]])

    def test_not_there(self):
        calls = LIVED + sets_of([0, 1, 2, 3, 4])
        for missing in (5, 6, 20, HIGHEST):
            self.assertEqual(last(calls + [senior(missing, 0)]), [-2])
            self.assertEqual(last(calls + [senior(0, missing)]), [-2])
            self.assertEqual(last(calls + [senior(missing, missing)]), [-2])
        self.assertEqual(last(calls + [senior(5, HIGHEST)]), [-2])
        self.assertEqual(last(BEGUN + [senior(0, 0)]), [-2])

    def test_in_no_set(self):
        calls = LIVED + sets_of([0])
        self.assertEqual(behind(calls, [senior(0, 1), senior(1, 0), senior(1, 2)]), [[-33]] * 3)
        self.assertEqual(last(calls + [senior(1, 1)]), [-33])
        self.assertEqual(last(LIVED + [OPEN, senior(0, 0)]), [-33])

    def test_not_there_is_told_ahead_of_in_no_set(self):
        calls = LIVED + sets_of([0])
        self.assertEqual(behind(calls, [senior(1, 5), senior(5, 1)]), [[-2], [-2]])
        self.assertEqual(behind(calls, [senior(1, HIGHEST), senior(HIGHEST, 1)]), [[-2], [-2]])


class Turned(unittest.TestCase):
    def test_none(self):
        self.assertEqual(last(BEGUN + [TURNED]), [0, 0])
        self.assertEqual(last(LIVED + [TURNED]), [0, 0])
        self.assertEqual(last(LIVED + sets_of([0, 1, 2, 3, 4]) + [TURNED]), [0, 0])
        self.assertEqual(last(LIVED + sets_of([0, 1], [2], [3, 4]) + [TURNED]), [0, 0])

    def test_two(self):
        self.assertEqual(last(LIVED + sets_of([2], [1]) + [TURNED]), [1, 3])
        self.assertEqual(last(LIVED + sets_of([4], [], [2]) + [TURNED]), [1, 4])

    def test_like_birth_years_in_different_sets(self):
        self.assertEqual(last(LIVED + sets_of([1], [0]) + [TURNED]), [0, 0])
        self.assertEqual(last(LIVED + sets_of([4], [3]) + [TURNED]), [0, 0])

    def test_one_who_is_in_no_set(self):
        self.assertEqual(last(LIVED + sets_of([4]) + [TURNED]), [0, 0])

    def test_several_twos_and_the_most_years_apart(self):
        self.assertEqual(last(LIVED + sets_of([3, 4], [2], [0, 1]) + [TURNED]), [8, 7])
        self.assertEqual(last(LIVED + sets_of([2, 3], [0], [4, 1]) + [TURNED]), [4, 7])
        # The most stands neither first nor last.
        self.assertEqual(last(LIVED + sets_of([2], [3], [1]) + [TURNED]), [2, 7])
        self.assertEqual(last(LIVED + sets_of([3], [0], [2]) + [TURNED]), [2, 7])

    def test_in_one_set_nobody_is_turned(self):
        self.assertEqual(last(LIVED + sets_of([4, 0]) + [TURNED]), [0, 0])

    def test_stays_as_years_go_by(self):
        self.assertEqual(last(LIVED + sets_of([3], [0]) + [go_by(200), TURNED]), [1, 7])

    def test_twenty_people(self):
        calls = [start(2, 0, 60)] + [call for year in range(20) for call in (BORN, go_by(1))]
        for person in range(19, 4, -1):
            calls += sets_of([person])
        self.assertEqual(last(calls + [OPEN, JOIN_ALL, TURNED]), [15 * 14 // 2 + 15 * 5, 19])

    def test_by_as_many_years_as_the_ages_differ(self):
        calls = [start(2, 0, 60), BORN, go_by(60), BORN] + sets_of([1], [0])
        self.assertEqual(last(calls + [TURNED]), [1, 60])


class Rank(unittest.TestCase):
    def test_nobody(self):
        self.assertEqual(last(BEGUN + [RANK]), ranked())
        self.assertEqual(last(LIVED + [OPEN, RANK]), ranked())

    def test_person_nought_alone(self):
        self.assertEqual(last(LIVED + sets_of([0]) + [RANK]), [1] + [0] * 20)

    def test_earlier_years_first(self):
        self.assertEqual(last(LIVED + sets_of([3, 2, 0]) + [RANK]), ranked(0, 2, 3))

    def test_of_like_years_the_lesser_number(self):
        self.assertEqual(last(LIVED + sets_of([4, 3, 1, 0]) + [RANK]), ranked(0, 1, 3, 4))

    def test_sets_in_order(self):
        self.assertEqual(last(LIVED + sets_of([4, 2], [], [3, 0], [1]) + [RANK]), ranked(2, 4, 0, 3, 1))

    def test_those_in_no_set_are_left_out(self):
        self.assertEqual(last(LIVED + sets_of([3], [1]) + [go_by(90), RANK]), ranked(3, 1))

    def test_twenty_people(self):
        calls = BEGUN + [BORN] * 20
        self.assertEqual(last(calls + [OPEN, JOIN_ALL, RANK]), ranked(*range(20)))
        halves = sets_of(range(19, 9, -1)) + [OPEN, JOIN_ALL]
        self.assertEqual(last(calls + halves + [RANK]), ranked(*range(10, 20), *range(10)))

    def test_one_less_than_twenty(self):
        calls = BEGUN + [BORN] * 20 + sets_of(range(1, 20))
        self.assertEqual(last(calls + [RANK]), ranked(*range(1, 20)))

    def test_sixteen_sets(self):
        calls = BEGUN + [BORN] * 16 + sets_of(*[[person] for person in range(15, -1, -1)])
        self.assertEqual(last(calls + [RANK]), ranked(*range(15, -1, -1)))


if __name__ == "__main__":
    unittest.main()
