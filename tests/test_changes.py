"""Point 2: os_pass, os_born, os_open, os_shut."""

import unittest

from helper import BORN, HIGHEST, JOIN_ALL, OPEN, SHUT, Refusing, age, asked, go_by, join, last, sets_gone_by, start

BEGUN = [start(3, 1, 4)]


class Pass(Refusing):
    def test_tells_the_year(self):
        self.assertEqual(asked(BEGUN + [go_by(1), go_by(7), go_by(92)])[1:], [[1], [8], [100]])

    def test_no_years(self):
        self.assert_refused(BEGUN, go_by(0), -22)
        self.assert_refused(BEGUN + [BORN, go_by(5)], go_by(0), -22)
        self.assert_refused(BEGUN + [go_by(300)], go_by(0), -22)

    def test_to_the_last_year(self):
        self.assertEqual(last(BEGUN + [go_by(300)]), [300])
        self.assertEqual(last(BEGUN + [go_by(299), go_by(1)]), [300])

    def test_past_the_last_year(self):
        self.assert_refused(BEGUN, go_by(301), -22)
        self.assert_refused(BEGUN + [go_by(299)], go_by(2), -22)
        self.assert_refused(BEGUN + [go_by(300)], go_by(1), -22)

    def test_the_highest_number(self):
        self.assert_refused(BEGUN, go_by(HIGHEST), -22)
        self.assert_refused(BEGUN + [BORN, go_by(1)], go_by(HIGHEST), -22)

    def test_a_set_stays_open(self):
        self.assertEqual(last(BEGUN + [OPEN, go_by(9), OPEN]), [-17])


class Born(Refusing):
    def test_numbered_from_nought(self):
        self.assertEqual(asked(BEGUN + [BORN, go_by(3), BORN, BORN])[1:], [[0], [3], [1], [2]])

    def test_twenty_and_no_more(self):
        twenty = BEGUN + [BORN] * 20
        self.assertEqual(last(twenty), [19])
        self.assert_refused(twenty, BORN, -28)
        self.assert_refused(twenty + [go_by(2), OPEN, JOIN_ALL, SHUT, go_by(90)], BORN, -28)

    def test_born_this_year(self):
        calls = BEGUN + [go_by(7), BORN, age(0), go_by(2), BORN, age(0), age(1)]
        self.assertEqual(asked(calls)[3:], [[0], [9], [1], [2], [0]])


class Open(Refusing):
    def test_number_then_name(self):
        self.assertEqual(asked(BEGUN + sets_gone_by(2))[1:], [[0, 0], [0], [1, 1], [0]])

    def test_names_come_round_again(self):
        told = asked(BEGUN + sets_gone_by(16))[1::2]
        self.assertEqual(told, [[number, number % 3] for number in range(16)])

    def test_as_many_names_as_were_told(self):
        for names in (2, 12):
            told = asked([start(names, 0, 9)] + sets_gone_by(16))[1::2]
            self.assertEqual(told, [[number, number % names] for number in range(16)])

    def test_while_one_is_open(self):
        self.assert_refused(BEGUN + [OPEN], OPEN, -17)
        self.assert_refused(BEGUN + sets_gone_by(3) + [OPEN, go_by(9)], OPEN, -17)

    def test_sixteen_and_no_more(self):
        self.assertEqual(last(BEGUN + sets_gone_by(15) + [OPEN]), [15, 0])
        self.assert_refused(BEGUN + sets_gone_by(16), OPEN, -28)

    def test_the_last_one_open_is_told_ahead_of_no_room(self):
        self.assert_refused(BEGUN + sets_gone_by(15) + [OPEN], OPEN, -17)


class Shut(Refusing):
    def test_none_open(self):
        self.assert_refused(BEGUN, SHUT, -6)
        self.assert_refused(BEGUN + [OPEN, SHUT], SHUT, -6)
        self.assert_refused(BEGUN + sets_gone_by(16), SHUT, -6)

    def test_nobody_in_it(self):
        self.assertEqual(last(BEGUN + [OPEN, SHUT]), [0])
        self.assertEqual(last(BEGUN + [BORN, go_by(1), OPEN, SHUT]), [0])

    def test_with_people(self):
        self.assertEqual(last(BEGUN + [BORN] * 5 + [go_by(1), OPEN, join(4), join(2), SHUT]), [2])
        self.assertEqual(last(BEGUN + [BORN] * 20 + [go_by(1), OPEN, JOIN_ALL, SHUT]), [20])

    def test_only_those_of_this_set(self):
        calls = BEGUN + [BORN] * 3 + [go_by(1), OPEN, join(0), join(1), SHUT, OPEN, join(2), SHUT, OPEN, SHUT]
        told = asked(calls)
        self.assertEqual([told[8], told[11], told[13]], [[2], [1], [0]])

    def test_shut_for_good(self):
        calls = BEGUN + [BORN, go_by(1), OPEN, SHUT]
        self.assertEqual(asked(calls + [join(0), JOIN_ALL, OPEN, join(0)])[-4:], [[-16], [-16], [1, 1], [1]])


if __name__ == "__main__":
    unittest.main()
