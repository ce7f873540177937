"""Point 4, as far as it has landed: os_age, os_whose, os_members, os_name."""

import unittest

from helper import (
    BORN, HIGHEST, JOIN_ALL, OPEN, SHUT, age, all_that_is_kept, asked, go_by, join, last, members, name, sets_gone_by,
    start, whose,
)

BEGUN = [start(3, 1, 4)]


class Age(unittest.TestCase):
    def test_years_since_birth(self):
        calls = BEGUN + [BORN, age(0), go_by(1), age(0), go_by(10), BORN, age(0), age(1), go_by(289), age(0), age(1)]
        self.assertEqual(asked(calls)[1:], [[0], [0], [1], [1], [11], [1], [11], [0], [300], [300], [289]])

    def test_not_there(self):
        self.assertEqual(last(BEGUN + [age(0)]), [-2])
        for person in (2, 3, HIGHEST):
            self.assertEqual(last(BEGUN + [BORN, BORN, age(person)]), [-2])

    def test_the_last_one(self):
        calls = BEGUN + [BORN] * 19 + [go_by(3), BORN, go_by(2)]
        self.assertEqual(asked(calls + [age(18), age(19), age(20)])[-3:], [[5], [2], [-2]])


class Whose(unittest.TestCase):
    def test_set_then_name(self):
        calls = BEGUN + sets_gone_by(7) + [BORN, go_by(1), OPEN, join(0), whose(0)]
        self.assertEqual(last(calls), [7, 1])

    def test_also_when_it_is_shut(self):
        calls = BEGUN + sets_gone_by(5) + [BORN, go_by(1), OPEN, join(0), SHUT, OPEN, go_by(99), whose(0)]
        self.assertEqual(last(calls), [5, 2])

    def test_not_there(self):
        for person in (0, 1, HIGHEST):
            self.assertEqual(last(BEGUN + [OPEN, whose(person)]), [-2])
        self.assertEqual(last(BEGUN + [BORN, go_by(1), OPEN, join(0), whose(1)]), [-2])

    def test_the_last_one(self):
        calls = BEGUN + [BORN] * 20 + [go_by(1), OPEN, join(19)]
        self.assertEqual(asked(calls + [whose(18), whose(19), whose(20)])[-3:], [[-33], [0, 0], [-2]])

    def test_in_none(self):
        self.assertEqual(last(BEGUN + [BORN, whose(0)]), [-33])
        self.assertEqual(last(BEGUN + [BORN, go_by(2), OPEN, whose(0)]), [-33])
        self.assertEqual(last(BEGUN + [BORN, go_by(9), OPEN, JOIN_ALL, SHUT, whose(0)]), [-33])


class Members(unittest.TestCase):
    def test_how_many_then_who(self):
        calls = BEGUN + [BORN] * 6 + [go_by(1), OPEN, join(5), join(0), join(3)]
        self.assertEqual(last(calls + [members(0)]), [3, 41])
        self.assertEqual(last(calls + [SHUT, go_by(50), OPEN, members(0)]), [3, 41])

    def test_nobody_in_it(self):
        self.assertEqual(last(BEGUN + [OPEN, members(0)]), [0, 0])
        self.assertEqual(last(BEGUN + [BORN, go_by(1), OPEN, SHUT, members(0)]), [0, 0])
        self.assertEqual(last(BEGUN + [BORN, go_by(1), OPEN, join(0), SHUT, OPEN, members(1)]), [0, 0])

    def test_not_there(self):
        self.assertEqual(last(BEGUN + [members(0)]), [-2])
        self.assertEqual(last(BEGUN + [BORN, BORN, members(0)]), [-2])
        for number in (2, 3, HIGHEST):
            self.assertEqual(last(BEGUN + sets_gone_by(2) + [members(number)]), [-2])

    def test_the_last_one(self):
        calls = BEGUN + sets_gone_by(15) + [BORN, BORN, go_by(1), OPEN, join(1)]
        self.assertEqual(asked(calls + [members(14), members(15), members(16)])[-3:], [[0, 0], [1, 2], [-2]])

    def test_all_of_them(self):
        self.assertEqual(last(BEGUN + [BORN] * 20 + [go_by(1), OPEN, JOIN_ALL, members(0)]), [20, 1048575])


class Name(unittest.TestCase):
    def test_the_rest(self):
        for names in range(2, 13):
            calls = [start(names, 0, 9)] + [name(number) for number in range(30)]
            self.assertEqual(asked(calls)[1:], [[number % names] for number in range(30)])

    def test_there_or_not_there_yet(self):
        self.assertEqual(asked(BEGUN + [name(4), OPEN, name(0), name(4)])[1:], [[1], [0, 0], [0], [1]])
        self.assertEqual(last(BEGUN + [name(16)]), [1])

    def test_the_highest_number(self):
        # 4294967295 is 3 * 5 * 17 * 257 * 65537.
        for names, told in ((2, 1), (3, 0), (4, 3), (5, 0), (7, 3), (10, 5), (11, 3), (12, 3)):
            self.assertEqual(last([start(names, 0, 9), name(HIGHEST)]), [told])


class NothingIsChanged(unittest.TestCase):
    def test_by_a_question(self):
        calls = BEGUN + [BORN, BORN, go_by(1), OPEN, join(0), SHUT, OPEN, BORN]
        kept = all_that_is_kept(calls)
        for number in (0, 1, 2, 3, HIGHEST):
            for question in (age(number), whose(number), members(number), name(number)):
                self.assertEqual(all_that_is_kept(calls + [question]), kept)


if __name__ == "__main__":
    unittest.main()
