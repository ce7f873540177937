"""Point 4: os_age, os_whose, os_when, os_members, os_span, os_name, os_alike, os_may, os_missed."""

import unittest

from helper import (
    BORN, HIGHEST, JOIN_ALL, MAY, MISSED, OPEN, RANK, SHUT, STATE, TURNED, age, alike, all_that_is_kept, asked, behind,
    go_by, join, last, members, name, senior, sets_gone_by, span, start, when, whose,
)

BEGUN = [start(3, 1, 4)]


class Age(unittest.TestCase):
    def test_years_since_birth(self):
        calls = BEGUN + [BORN, age(0), go_by(1), age(0), go_by(10), BORN, age(0), age(1), go_by(289), age(0), age(1)]
        self.assertEqual(asked(calls)[1:], [[0], [0], [1], [1], [11], [1], [11], [0], [300], [300], [289]])

    def test_not_there(self):
        self.assertEqual(last(BEGUN + [age(0)]), [-2])
        for person in (2, 3, HIGHEST):
            self.assertEqual(last(BEGUN + [BORN, BORN, age(person)]), [-2])

    def test_the_last_one(self):
        calls = BEGUN + [BORN] * 19 + [go_by(3), BORN, go_by(2)]
        self.assertEqual(asked(calls + [age(18), age(19), age(20)])[-3:], [[5], [2], [-2]])


class Whose(unittest.TestCase):
    def test_set_then_name(self):
        calls = BEGUN + sets_gone_by(7) + [BORN, go_by(1), OPEN, join(0), whose(0)]
        self.assertEqual(last(calls), [7, 1])

    def test_also_when_it_is_shut(self):
        calls = BEGUN + sets_gone_by(5) + [BORN, go_by(1), OPEN, join(0), SHUT, OPEN, go_by(99), whose(0)]
        self.assertEqual(last(calls), [5, 2])

    def test_not_there(self):
        for person in (0, 1, HIGHEST):
            self.assertEqual(last(BEGUN + [OPEN, whose(person)]), [-2])
        self.assertEqual(last(BEGUN + [BORN, go_by(1), OPEN, join(0), whose(1)]), [-2])

    def test_the_last_one(self):
        calls = BEGUN + [BORN] * 20 + [go_by(1), OPEN, join(19)]
        self.assertEqual(asked(calls + [whose(18), whose(19), whose(20)])[-3:], [[-33], [0, 0], [-2]])

    def test_in_none(self):
        self.assertEqual(last(BEGUN + [BORN, whose(0)]), [-33])
        self.assertEqual(last(BEGUN + [BORN, go_by(2), OPEN, whose(0)]), [-33])
        self.assertEqual(last(BEGUN + [BORN, go_by(9), OPEN, JOIN_ALL, SHUT, whose(0)]), [-33])


class When(unittest.TestCase):
    def test_year_then_age(self):
        calls = BEGUN + [go_by(20), BORN, go_by(3), OPEN, join(0)]
        self.assertEqual(last(calls + [when(0)]), [23, 3])

    def test_asked_years_after(self):
        calls = BEGUN + [go_by(20), BORN, go_by(3), OPEN, join(0), SHUT, go_by(50), OPEN, BORN, SHUT]
        self.assertEqual(last(calls + [when(0)]), [23, 3])
        self.assertEqual(last(calls + [go_by(227), when(0)]), [23, 3])

    def test_the_year_of_joining_not_of_opening(self):
        calls = BEGUN + [OPEN, go_by(7), BORN, go_by(2), join(0), go_by(1), SHUT]
        self.assertEqual(last(calls + [when(0)]), [9, 2])

    def test_joined_by_all_at_once(self):
        calls = BEGUN + [BORN, go_by(1), BORN, go_by(2), OPEN, join(1), go_by(1), JOIN_ALL, go_by(9)]
        self.assertEqual(behind(calls, [when(0), when(1)]), [[4, 4], [3, 2]])

    def test_in_the_year_of_birth(self):
        calls = [start(2, 0, 0), OPEN, BORN, join(0), go_by(8), BORN, JOIN_ALL, go_by(1)]
        self.assertEqual(behind(calls, [when(0), when(1)]), [[0, 0], [8, 0]])

    def test_at_the_edges(self):
        for years in (1, 4):
            self.assertEqual(last(BEGUN + [BORN, go_by(years), OPEN, join(0), go_by(9), when(0)]), [years, years])
        self.assertEqual(last([start(2, 60, 60), go_by(240), BORN, OPEN, go_by(60), join(0), when(0)]), [300, 60])

    def test_not_there(self):
        for person in (0, 1, HIGHEST):
            self.assertEqual(last(BEGUN + [OPEN, when(person)]), [-2])
        self.assertEqual(last(BEGUN + [BORN, go_by(1), OPEN, join(0), when(1)]), [-2])

    def test_in_none(self):
        self.assertEqual(last(BEGUN + [BORN, when(0)]), [-33])
        self.assertEqual(last(BEGUN + [BORN, go_by(2), OPEN, when(0)]), [-33])
        self.assertEqual(last(BEGUN + [BORN, BORN, go_by(2), OPEN, join(1), SHUT, go_by(9), when(0)]), [-33])

    def test_the_last_one(self):
        calls = BEGUN + [BORN] * 20 + [go_by(1), OPEN, join(19)]
        self.assertEqual(behind(calls, [when(18), when(19), when(20)]), [[-33], [1, 1], [-2]])


class Members(unittest.TestCase):
    def test_how_many_then_who(self):
        calls = BEGUN + [BORN] * 6 + [go_by(1), OPEN, join(5), join(0), join(3)]
        self.assertEqual(last(calls + [members(0)]), [3, 41])
        self.assertEqual(last(calls + [SHUT, go_by(50), OPEN, members(0)]), [3, 41])

    def test_nobody_in_it(self):
        self.assertEqual(last(BEGUN + [OPEN, members(0)]), [0, 0])
        self.assertEqual(last(BEGUN + [BORN, go_by(1), OPEN, SHUT, members(0)]), [0, 0])
        self.assertEqual(last(BEGUN + [BORN, go_by(1), OPEN, join(0), SHUT, OPEN, members(1)]), [0, 0])

    def test_not_there(self):
        self.assertEqual(last(BEGUN + [members(0)]), [-2])
        self.assertEqual(last(BEGUN + [BORN, BORN, members(0)]), [-2])
        for number in (2, 3, HIGHEST):
            self.assertEqual(last(BEGUN + sets_gone_by(2) + [members(number)]), [-2])

    def test_the_last_one(self):
        calls = BEGUN + sets_gone_by(15) + [BORN, BORN, go_by(1), OPEN, join(1)]
        self.assertEqual(asked(calls + [members(14), members(15), members(16)])[-3:], [[0, 0], [1, 2], [-2]])

    def test_all_of_them(self):
        self.assertEqual(last(BEGUN + [BORN] * 20 + [go_by(1), OPEN, JOIN_ALL, members(0)]), [20, 1048575])


class Span(unittest.TestCase):
    # Three are born in the years 5, 7 and 8; in year 9 all may join.
    lived = BEGUN + [go_by(5), BORN, go_by(2), BORN, go_by(1), BORN, go_by(1), OPEN]

    def test_one_member(self):
        self.assertEqual(last(self.lived + [join(1), span(0)]), [0, 7, 7])

    def test_several(self):
        self.assertEqual(last(self.lived + [join(1), join(0), span(0)]), [2, 5, 7])
        self.assertEqual(last(self.lived + [join(2), join(1), span(0)]), [1, 7, 8])
        self.assertEqual(last(self.lived + [JOIN_ALL, span(0)]), [3, 5, 8])

    def test_several_born_in_one_year(self):
        calls = BEGUN + [go_by(30), BORN, BORN, BORN, go_by(2), OPEN, JOIN_ALL]
        self.assertEqual(last(calls + [span(0)]), [0, 30, 30])

    def test_asked_years_after(self):
        self.assertEqual(last(self.lived + [JOIN_ALL, SHUT, go_by(60), OPEN, BORN, span(0)]), [3, 5, 8])

    def test_of_this_set_alone(self):
        calls = self.lived + [join(0), SHUT, OPEN, join(2), join(1), SHUT]
        self.assertEqual(behind(calls, [span(0), span(1)]), [[0, 5, 5], [1, 7, 8]])

    def test_nobody_in_it(self):
        self.assertEqual(last(self.lived + [span(0)]), [-33])
        self.assertEqual(last(self.lived + [SHUT, span(0)]), [-33])
        self.assertEqual(last(self.lived + [JOIN_ALL, SHUT, OPEN, span(1)]), [-33])

    def test_not_there(self):
        self.assertEqual(last(BEGUN + [span(0)]), [-2])
        for number in (1, 2, 16, HIGHEST):
            self.assertEqual(last(self.lived + [JOIN_ALL, span(number)]), [-2])

    def test_the_last_one(self):
        calls = BEGUN + sets_gone_by(15) + [BORN, go_by(1), OPEN, join(0)]
        self.assertEqual(behind(calls, [span(14), span(15), span(16)]), [[-33], [0, 0, 0], [-2]])

    def test_as_far_apart_as_may_be(self):
        calls = [start(2, 0, 60), go_by(240), BORN, OPEN, go_by(60), BORN, JOIN_ALL]
        self.assertEqual(last(calls + [span(0)]), [60, 240, 300])


class Name(unittest.TestCase):
    def test_the_rest(self):
        for names in range(2, 13):
            calls = [start(names, 0, 9)] + [name(number) for number in range(30)]
            self.assertEqual(asked(calls)[1:], [[number % names] for number in range(30)])

    def test_there_or_not_there_yet(self):
        self.assertEqual(asked(BEGUN + [name(4), OPEN, name(0), name(4)])[1:], [[1], [0, 0], [0], [1]])
        self.assertEqual(last(BEGUN + [name(16)]), [1])

    def test_the_highest_number(self):
        # 4294967295 is 3 * 5 * 17 * 257 * 65537.
        for names, told in ((2, 1), (3, 0), (4, 3), (5, 0), (7, 3), (10, 5), (11, 3), (12, 3)):
            self.assertEqual(last([start(names, 0, 9), name(HIGHEST)]), [told])


class Alike(unittest.TestCase):
    def test_a_name_no_other_set_has(self):
        self.assertEqual(last(BEGUN + [OPEN, alike(0)]), [1, 1])
        calls = BEGUN + sets_gone_by(3)
        self.assertEqual(behind(calls, [alike(0), alike(1), alike(2)]), [[1, 1], [1, 2], [1, 4]])

    def test_names_come_round_again(self):
        calls = BEGUN + sets_gone_by(4)
        told = [[2, 9], [1, 2], [1, 4], [2, 9]]
        self.assertEqual(behind(calls, [alike(number) for number in range(4)]), told)
        self.assertEqual(behind(calls + [OPEN, SHUT] * 3, [alike(6), alike(0), alike(5)]), [[3, 73], [3, 73], [2, 36]])

    def test_also_one_that_is_open(self):
        calls = BEGUN + sets_gone_by(3)
        self.assertEqual(behind(calls, [alike(0), OPEN, alike(0), SHUT, alike(0)]), [[1, 1], [3, 0], [2, 9], [0], [2, 9]])

    def test_the_last_one_of_sixteen_with_two_names(self):
        calls = [start(2, 0, 9)] + sets_gone_by(16)
        told = [[8, 21845], [8, 43690], [8, 21845], [8, 43690], [-2]]
        self.assertEqual(behind(calls, [alike(number) for number in (0, 1, 14, 15, 16)]), told)

    def test_with_twelve_names(self):
        calls = [start(12, 0, 9)] + sets_gone_by(15) + [OPEN]
        self.assertEqual(behind(calls, [alike(3), alike(4), alike(11), alike(15)]), [
            [2, 32776], [1, 16], [1, 2048], [2, 32776],
        ])

    def test_not_there(self):
        self.assertEqual(last(BEGUN + [alike(0)]), [-2])
        for number in (2, 3, 16, HIGHEST):
            self.assertEqual(last(BEGUN + sets_gone_by(2) + [alike(number)]), [-2])


class MayAndMissed(unittest.TestCase):
    def test_nobody(self):
        self.assertEqual(behind(BEGUN, [MAY, MISSED]), [[0, 0], [0, 0]])
        self.assertEqual(behind(BEGUN + [BORN, OPEN], [MAY, MISSED]), [[0, 0], [0, 0]])

    def test_at_the_edges(self):
        calls = BEGUN + [go_by(50), BORN]
        for years, may, missed in (
            (1, [1, 1], [0, 0]), (4, [1, 1], [0, 0]), (5, [0, 0], [1, 1]), (250, [0, 0], [1, 1]),
        ):
            self.assertEqual(behind(calls + [go_by(years)], [MAY, MISSED]), [may, missed])
        self.assertEqual(behind(calls, [MAY, MISSED]), [[0, 0], [0, 0]])

    def test_at_the_edges_with_one_age_alone(self):
        calls = [start(2, 3, 3), BORN]
        for years, may, missed in ((2, [0, 0], [0, 0]), (3, [1, 1], [0, 0]), (4, [0, 0], [1, 1])):
            self.assertEqual(behind(calls + [go_by(years)], [MAY, MISSED]), [may, missed])

    def test_newly_born(self):
        calls = [start(2, 0, 0), BORN]
        self.assertEqual(behind(calls, [MAY, MISSED]), [[1, 1], [0, 0]])
        self.assertEqual(behind(calls + [go_by(1), BORN], [MAY, MISSED]), [[1, 2], [1, 1]])

    def test_some_of_each(self):
        # Ages 6, 5, 4, 3, 1, 0.
        calls = BEGUN + [
            BORN, go_by(1), BORN, go_by(1), BORN, go_by(1), BORN, go_by(2), BORN, go_by(1), BORN,
        ]
        self.assertEqual(behind(calls, [MAY, MISSED]), [[3, 28], [2, 3]])

    def test_open_shut_or_none_yet(self):
        calls = BEGUN + [BORN, go_by(5), BORN, go_by(1)]
        told = [[1, 2], [1, 1]]
        for sets in ([], [OPEN], [OPEN, SHUT], [OPEN, SHUT, OPEN], sets_gone_by(16)):
            self.assertEqual(behind(calls + sets, [MAY, MISSED]), told)

    def test_in_a_set_in_neither(self):
        calls = BEGUN + [BORN, BORN, BORN, go_by(1), OPEN, join(1)]
        self.assertEqual(behind(calls, [MAY, MISSED]), [[2, 5], [0, 0]])
        self.assertEqual(behind(calls + [go_by(4)], [MAY, MISSED]), [[0, 0], [2, 5]])
        self.assertEqual(behind(calls + [JOIN_ALL], [MAY, MISSED]), [[0, 0], [0, 0]])
        self.assertEqual(behind(calls + [JOIN_ALL, SHUT, go_by(90)], [MAY, MISSED]), [[0, 0], [0, 0]])

    def test_twenty_at_once(self):
        calls = BEGUN + [BORN] * 20
        everybody = [20, 1048575]
        self.assertEqual(behind(calls + [go_by(1)], [MAY, MISSED]), [everybody, [0, 0]])
        self.assertEqual(behind(calls + [go_by(5)], [MAY, MISSED]), [[0, 0], everybody])

    def test_who_may_is_who_does(self):
        calls = BEGUN + [BORN, go_by(3), BORN, BORN, go_by(2), BORN, OPEN, join(1)]
        self.assertEqual(behind(calls, [MAY, JOIN_ALL, MAY]), [[1, 4], [1, 4], [0, 0]])


class NothingIsChanged(unittest.TestCase):
    def test_by_a_question(self):
        calls = BEGUN + [BORN, BORN, go_by(1), OPEN, join(0), SHUT, OPEN, BORN]
        kept = all_that_is_kept(calls)
        for question in (MAY, MISSED, TURNED, RANK, STATE):
            self.assertEqual(all_that_is_kept(calls + [question]), kept)
        for number in (0, 1, 2, 3, HIGHEST):
            for question in (age, whose, when, members, span, name, alike):
                self.assertEqual(all_that_is_kept(calls + [question(number)]), kept)
            self.assertEqual(all_that_is_kept(calls + [senior(0, number), senior(number, 0)]), kept)


if __name__ == "__main__":
    unittest.main()
