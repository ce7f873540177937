"""Point 3: os_join, os_join_all."""

import unittest

from helper import (
    BORN, HIGHEST, JOIN_ALL, OPEN, SHUT, Refusing, age, answered_now, asked, go_by, join, last, members, sets_gone_by,
    start, whose,
)

LOWEST_AGE = 3
HIGHEST_AGE = 6
BEGUN = [start(3, LOWEST_AGE, HIGHEST_AGE)]
OF_AGE = BEGUN + [BORN, BORN, go_by(4)]


class Join(Refusing):
    def test_tells_the_set(self):
        self.assertEqual(last(OF_AGE + [OPEN, join(1)]), [0])
        self.assertEqual(last(OF_AGE + sets_gone_by(4) + [OPEN, join(1)]), [4])
        self.assertEqual(last(OF_AGE + sets_gone_by(15) + [OPEN, join(0)]), [15])

    def test_is_in_that_set_alone(self):
        calls = OF_AGE + sets_gone_by(1) + [OPEN, join(1), members(0), members(1), whose(0), whose(1)]
        self.assertEqual(asked(calls)[-4:], [[0, 0], [1, 2], [-33], [1, 1]])

    def test_stays_in_it(self):
        calls = OF_AGE + [OPEN, join(0), SHUT, OPEN, join(1), SHUT, go_by(200), OPEN, whose(0), whose(1)]
        self.assertEqual(asked(calls)[-2:], [[0, 0], [1, 1]])

    def test_not_there(self):
        for person in (2, 3, 20, HIGHEST):
            self.assert_refused(OF_AGE + [OPEN], join(person), -2)
        self.assert_refused(BEGUN + [OPEN], join(0), -2)
        self.assert_refused(BEGUN + [BORN] * 20 + [go_by(4), OPEN], join(20), -2)
        self.assertEqual(last(BEGUN + [BORN] * 20 + [go_by(4), OPEN, join(19)]), [0])

    def test_in_a_set(self):
        self.assert_refused(OF_AGE + [OPEN, join(0)], join(0), -17)
        self.assert_refused(OF_AGE + [OPEN, join(0), SHUT, OPEN], join(0), -17)

    def test_no_set_open(self):
        self.assert_refused(OF_AGE, join(0), -16)
        self.assert_refused(OF_AGE + [OPEN, SHUT], join(0), -16)

    def test_not_of_such_an_age(self):
        self.assert_refused(BEGUN + [BORN, OPEN], join(0), -22)
        self.assert_refused(BEGUN + [BORN, OPEN, go_by(300)], join(0), -22)

    def test_ages_at_the_edges(self):
        for years, number in ((LOWEST_AGE - 1, -22), (LOWEST_AGE, 0), (HIGHEST_AGE, 0), (HIGHEST_AGE + 1, -22)):
            self.assertEqual(last(BEGUN + [go_by(50), BORN, OPEN, go_by(years), join(0)]), [number])

    def test_newly_born(self):
        self.assertEqual(asked([start(2, 0, 0), OPEN, BORN, BORN, join(0), go_by(1), join(1)])[4:], [[0], [1], [-22]])

    def test_at_sixty(self):
        self.assertEqual(last([start(2, 60, 60), BORN, OPEN, go_by(59), join(0)]), [-22])
        self.assertEqual(last([start(2, 60, 60), BORN, OPEN, go_by(60), join(0)]), [0])
        self.assertEqual(last([start(2, 60, 60), BORN, OPEN, go_by(61), join(0)]), [-22])


class WhichIsToldFirst(Refusing):
    def test_not_there_ahead_of_no_set_open(self):
        self.assert_refused(OF_AGE, join(2), -2)
        self.assert_refused(BEGUN, join(HIGHEST), -2)

    def test_not_there_ahead_of_the_age(self):
        # Nobody's age would do in year 0, were they there or not.
        self.assert_refused(BEGUN + [BORN, OPEN], join(1), -2)

    def test_not_there_though_all_who_are_there_are_in_a_set(self):
        self.assert_refused(OF_AGE + [OPEN, JOIN_ALL], join(2), -2)
        self.assert_refused(OF_AGE + [OPEN, JOIN_ALL, SHUT], join(2), -2)

    def test_in_a_set_ahead_of_no_set_open(self):
        self.assert_refused(OF_AGE + [OPEN, join(0), SHUT], join(0), -17)

    def test_in_a_set_ahead_of_the_age(self):
        self.assert_refused(OF_AGE + [OPEN, join(0), go_by(9)], join(0), -17)

    def test_in_a_set_ahead_of_both(self):
        self.assert_refused(OF_AGE + [OPEN, join(0), SHUT, go_by(9)], join(0), -17)

    def test_no_set_open_ahead_of_the_age(self):
        self.assert_refused(BEGUN + [BORN], join(0), -16)
        self.assert_refused(BEGUN + [BORN, OPEN, SHUT, go_by(9)], join(0), -16)


class JoinAll(Refusing):
    def test_how_many_then_who(self):
        self.assertEqual(last(OF_AGE + [OPEN, JOIN_ALL]), [2, 3])
        self.assertEqual(last(BEGUN + [BORN] * 20 + [go_by(3), OPEN, JOIN_ALL]), [20, 1048575])

    def test_only_some_may(self):
        # Ages 7, 6, 5 (in a set already), 3, 2: one too old, one too young.
        calls = BEGUN + [BORN, go_by(1), BORN, go_by(1), BORN, go_by(2), BORN, go_by(1), BORN, go_by(2), OPEN, join(2)]
        told = asked(calls + [age(0), age(1), age(2), age(3), age(4), JOIN_ALL, members(0)])
        self.assertEqual(told[-7:], [[7], [6], [5], [3], [2], [2, 10], [3, 14]])

    def test_those_of_an_earlier_set_stay_there(self):
        calls = OF_AGE + [OPEN, join(0), SHUT, OPEN, JOIN_ALL, members(0), members(1)]
        self.assertEqual(asked(calls)[-3:], [[1, 2], [1, 1], [1, 2]])

    def test_the_last_person_alone(self):
        calls = BEGUN + [BORN] * 19 + [go_by(4), BORN, go_by(3), OPEN, JOIN_ALL, whose(18), whose(19)]
        self.assertEqual(asked(calls)[-3:], [[1, 524288], [-33], [0, 0]])

    def test_no_set_open(self):
        self.assert_refused(OF_AGE, JOIN_ALL, -16)
        self.assert_refused(OF_AGE + [OPEN, SHUT], JOIN_ALL, -16)

    def test_nobody_may(self):
        self.assert_refused(BEGUN + [OPEN], JOIN_ALL, -6)
        self.assert_refused(BEGUN + [BORN, OPEN, go_by(LOWEST_AGE - 1)], JOIN_ALL, -6)
        self.assert_refused(BEGUN + [BORN, OPEN, go_by(HIGHEST_AGE + 1)], JOIN_ALL, -6)
        self.assert_refused(OF_AGE + [OPEN, JOIN_ALL], JOIN_ALL, -6)

    def test_no_set_open_ahead_of_nobody_may(self):
        self.assert_refused(BEGUN, JOIN_ALL, -16)
        self.assert_refused(BEGUN + [BORN], JOIN_ALL, -16)
        self.assert_refused(OF_AGE + [OPEN, JOIN_ALL, SHUT], JOIN_ALL, -16)

    def test_at_the_edges(self):
        for years, told in ((LOWEST_AGE, [1, 1]), (HIGHEST_AGE, [1, 1])):
            self.assertEqual(last(BEGUN + [BORN, OPEN, go_by(years), JOIN_ALL]), told)

    def test_all_at_once_or_one_by_one(self):
        ready = BEGUN + [BORN, go_by(2), BORN, BORN, BORN, go_by(3), BORN, go_by(2), OPEN, join(1)]
        one_by_one = ready + [join(person) for person in range(5)]
        self.assertEqual(last(ready + [JOIN_ALL]), [2, 12])
        self.assertEqual(answered_now(ready + [JOIN_ALL]), answered_now(one_by_one))


if __name__ == "__main__":
    unittest.main()
