"""Point 6, and what point 1 says of changes: os_back, os_again, os_state."""

import unittest

from helper import (
    AGAIN, BACK, BORN, HIGHEST, JOIN_ALL, OPEN, RANK, SHUT, STATE, Refusing, age, all_that_is_kept, answered_now, asked,
    behind, go_by, join, last, members, name, probes, questions, sets_gone_by, start, when, whose,
)

BEGUN = [start(3, 1, 4)]
# Three people, one of them in the first set; then a second set is open.
LIVED = BEGUN + [BORN, BORN, go_by(2), BORN, OPEN, join(1), SHUT, go_by(1), OPEN]


def can_be(calls):
    """How many changes can be taken back and done again behind these calls."""
    return last(calls + [STATE])[4:]


class EachChange(unittest.TestCase):
    def assert_back_and_again(self, calls, change):
        changed = calls + [change]
        self.assertGreaterEqual(last(changed)[0], 0)
        ahead = answered_now(calls)
        self.assertNotEqual(answered_now(changed), ahead)
        self.assertEqual(answered_now(changed + [BACK]), ahead)
        self.assertEqual(behind(changed + [BACK], probes()), behind(calls, probes()))
        # Done again, not even what can be taken back tells it from what was never taken back.
        self.assertEqual(all_that_is_kept(changed + [BACK, AGAIN]), all_that_is_kept(changed))
        self.assertEqual(all_that_is_kept(changed + [BACK, AGAIN, BACK]), all_that_is_kept(changed + [BACK]))

    def test_years_gone_by(self):
        self.assert_back_and_again(LIVED, go_by(1))
        self.assert_back_and_again(LIVED, go_by(297))
        self.assertEqual(behind(LIVED, [age(0), go_by(5), BACK, age(0), AGAIN, age(0)]), [[3], [8], [9], [3], [0], [8]])

    def test_one_born(self):
        self.assert_back_and_again(BEGUN, BORN)
        self.assert_back_and_again(LIVED, BORN)
        self.assertEqual(behind(LIVED, [BORN, BACK, age(3), BORN, age(3)]), [[3], [9], [-2], [3], [0]])

    def test_a_set_opened(self):
        self.assert_back_and_again(BEGUN, OPEN)
        self.assert_back_and_again(LIVED + [SHUT], OPEN)
        told = behind(LIVED + [SHUT], [OPEN, BACK, members(2), SHUT, OPEN])
        self.assertEqual(told, [[2, 2], [10], [-2], [-6], [2, 2]])

    def test_a_set_shut(self):
        self.assert_back_and_again(LIVED, SHUT)
        told = behind(LIVED, [SHUT, join(0), BACK, OPEN, join(0), SHUT])
        self.assertEqual(told, [[0], [-16], [9], [-17], [1], [1]])
        self.assertEqual(behind(LIVED, [SHUT, BACK, AGAIN, SHUT, OPEN]), [[0], [9], [0], [-6], [2, 2]])

    def test_one_joined(self):
        self.assert_back_and_again(LIVED, join(0))
        told = behind(LIVED, [join(0), BACK, whose(0), when(0), members(1), go_by(1), join(0), when(0)])
        self.assertEqual(told, [[1], [9], [-33], [-33], [0, 0], [4], [1], [4, 4]])

    def test_all_joined(self):
        self.assert_back_and_again(LIVED, JOIN_ALL)
        self.assert_back_and_again(BEGUN + [BORN] * 20 + [go_by(1), OPEN], JOIN_ALL)
        told = behind(LIVED, [JOIN_ALL, BACK, members(1), members(0), AGAIN, members(1), members(0), when(2)])
        self.assertEqual(told, [[2, 5], [9], [0, 0], [1, 2], [0], [2, 5], [1, 2], [3, 1]])

    def test_several_joined_by_one_change(self):
        self.assertEqual(can_be(LIVED + [JOIN_ALL]), [10, 0])
        self.assertEqual(can_be(LIVED + [join(0), join(2)]), [11, 0])


class Back(Refusing):
    def test_none(self):
        self.assert_refused(BEGUN, BACK, -2)
        self.assert_refused(BEGUN + [BORN, BACK], BACK, -2)
        self.assert_refused(BEGUN + [BORN, OPEN, go_by(3), BACK, BACK, BACK], BACK, -2)

    def test_how_many_can_still_be(self):
        told = behind(BEGUN + [BORN, go_by(1), OPEN, join(0)], [BACK] * 5)
        self.assertEqual(told, [[3], [2], [1], [0], [-2]])

    def test_step_by_step_to_the_beginning(self):
        for step in range(len(LIVED)):
            back = LIVED + [BACK] * step
            self.assertEqual(answered_now(back), answered_now(LIVED[:len(LIVED) - step]))

    def test_twenty_and_no_more(self):
        for changes in (20, 21, 22, 45):
            calls = BEGUN + [go_by(1)] * changes
            self.assertEqual(can_be(calls), [20, 0])
            self.assertEqual(behind(calls, [BACK] * 21), [[number] for number in range(19, -1, -1)] + [[-2]])
            self.assertEqual(last(calls + [BACK] * 21 + [STATE]), [changes - 20, 0, 0, 0, 0, 20])
        self.assertEqual(behind(BEGUN + [go_by(1)] * 19, [BACK] * 20)[-2:], [[0], [-2]])

    def test_the_first_of_twenty_one_stays(self):
        calls = BEGUN + [BORN] + [go_by(1)] * 20
        self.assert_refused(calls + [BACK] * 20, BACK, -2)
        self.assertEqual(behind(calls + [BACK] * 21, [age(0), age(1)]), [[0], [-2]])
        self.assertEqual(behind(BEGUN + [BORN] + [go_by(1)] * 19 + [BACK] * 20, [age(0)]), [[-2]])

    def test_behind_the_twentieth_others_can_be(self):
        calls = BEGUN + [go_by(1)] * 30 + [BACK] * 20
        self.assertEqual(behind(calls, [STATE, BORN, STATE, BACK, BACK]), [
            [10, 0, 0, 0, 0, 20], [0], [10, 1, 0, 0, 1, 0], [0], [-2],
        ])


class Again(Refusing):
    def test_none(self):
        self.assert_refused(BEGUN, AGAIN, -2)
        self.assert_refused(LIVED, AGAIN, -2)
        self.assert_refused(LIVED + [BACK, AGAIN], AGAIN, -2)

    def test_how_many_can_still_be(self):
        told = behind(BEGUN + [BORN, go_by(1), OPEN, join(0)] + [BACK] * 4, [AGAIN] * 5)
        self.assertEqual(told, [[3], [2], [1], [0], [-2]])

    def test_the_last_one_taken_back_comes_first(self):
        told = behind(BEGUN + [go_by(1), go_by(10), go_by(100), BACK, BACK], [AGAIN, STATE, AGAIN, STATE])
        self.assertEqual(told, [[1], [11, 0, 0, 0, 2, 1], [0], [111, 0, 0, 0, 3, 0]])

    def test_step_by_step_to_the_end(self):
        back = LIVED + [BACK] * (len(LIVED) - 1)
        for step in range(len(LIVED)):
            self.assertEqual(answered_now(back + [AGAIN] * step), answered_now(LIVED[:1 + step]))

    def test_all_twenty(self):
        calls = BEGUN + [BORN] * 5 + [go_by(1)] * 20
        self.assertEqual(behind(calls + [BACK] * 20, [AGAIN] * 21), [[number] for number in range(19, -1, -1)] + [[-2]])
        self.assertEqual(all_that_is_kept(calls + [BACK] * 20 + [AGAIN] * 20), all_that_is_kept(calls))
        self.assertEqual(can_be(calls + [BACK] * 20 + [AGAIN] * 20), [20, 0])

    def test_gone_behind_another_change(self):
        back = LIVED + [join(0), BACK, BACK, BACK]
        self.assertEqual(can_be(back), [7, 3])
        for changes in ([go_by(1)], [BORN], [OPEN], [OPEN, SHUT], [OPEN, join(0)], [OPEN, JOIN_ALL]):
            self.assertEqual(can_be(back + changes), [7 + len(changes), 0])
            self.assert_refused(back + changes, AGAIN, -2)
        for change in (SHUT, join(0), JOIN_ALL):
            calls = LIVED + [go_by(1), BACK]
            self.assertEqual(can_be(calls), [9, 1])
            self.assertEqual(can_be(calls + [change]), [10, 0])
            self.assert_refused(calls + [change], AGAIN, -2)

    def test_gone_behind_the_same_change(self):
        self.assertEqual(can_be(LIVED + [BORN, BORN, BACK, BACK, BORN]), [10, 0])
        self.assert_refused(LIVED + [BORN, BORN, BACK, BACK, BORN], AGAIN, -2)

    def test_gone_for_good(self):
        self.assert_refused(LIVED + [BORN, BACK, go_by(1), BACK, AGAIN], AGAIN, -2)
        self.assertEqual(behind(LIVED + [BORN, BACK, go_by(1)], [BACK, AGAIN, AGAIN, age(3)]), [[9], [0], [-2], [-2]])

    def test_what_was_taken_back_stays_apart_from_what_comes(self):
        # Were a list shared between how all stood and how it stands, the later change would show in both.
        calls = BEGUN + [BORN, BACK, AGAIN, BORN, BACK, BACK, AGAIN]
        self.assertEqual(behind(calls, [STATE, AGAIN, STATE]), [[0, 1, 0, 0, 1, 1], [0], [0, 2, 0, 0, 2, 0]])
        joined = BEGUN + [BORN, BORN, go_by(1), OPEN, join(0), BACK, AGAIN, join(1), BACK, BACK]
        self.assertEqual(behind(joined, [members(0), AGAIN, members(0), when(1)]), [[0, 0], [1], [1, 1], [-33]])


class NoChange(unittest.TestCase):
    # Some can be taken back, and some done again; one is in a set, one isn't.
    midway = BEGUN + [BORN, BORN, go_by(1), OPEN, join(0), go_by(9), BORN, SHUT, BACK, BACK]

    def assert_none(self, calls, call):
        self.assertEqual(all_that_is_kept(calls + [call]), all_that_is_kept(calls))

    def test_what_is_refused(self):
        for call in (
            go_by(0), go_by(291), go_by(HIGHEST), OPEN, join(0), join(1), join(2), join(HIGHEST), JOIN_ALL,
            start(1, 0, 9), start(13, 0, 9), start(3, 5, 4), start(3, 0, 61),
        ):
            self.assertLess(last(self.midway + [call])[0], 0)
            self.assert_none(self.midway, call)
        self.assertEqual(can_be(self.midway), [6, 2])

    def test_refused_where_no_set_is_open(self):
        shut = BEGUN + [BORN, go_by(1), OPEN, SHUT, go_by(1), BACK]
        for call in (SHUT, join(0), JOIN_ALL):
            self.assertLess(last(shut + [call])[0], 0)
            self.assert_none(shut, call)

    def test_refused_where_there_is_no_room(self):
        people = BEGUN + [BORN] * 20 + [go_by(1), BACK]
        self.assertEqual(last(people + [BORN]), [-28])
        self.assert_none(people, BORN)
        sets = BEGUN + sets_gone_by(16) + [go_by(1), BACK]
        self.assertEqual(last(sets + [OPEN]), [-28])
        self.assert_none(sets, OPEN)

    def test_a_question(self):
        for question in questions():
            self.assertEqual(can_be(self.midway + [question]), [6, 2])
        self.assertEqual(behind(self.midway + questions(), [AGAIN, AGAIN, BACK]), [[1], [0], [7]])

    def test_taking_back_and_doing_again(self):
        self.assertEqual(can_be(self.midway + [BACK]), [5, 3])
        self.assertEqual(can_be(self.midway + [AGAIN]), [7, 1])

    def test_refused_taking_back_leaves_what_can_be_done_again(self):
        calls = BEGUN + [BORN, OPEN, BACK, BACK]
        self.assertEqual(behind(calls, [BACK, AGAIN, AGAIN, AGAIN, BACK]), [[-2], [1], [0], [-2], [1]])


class Start(unittest.TestCase):
    midway = LIVED + [BACK, BACK]

    def test_behind_changes(self):
        for begun in (start(3, 1, 4), start(5, 0, 60)):
            self.assertEqual(behind(self.midway, [begun, BACK, AGAIN, STATE]), [[0], [-2], [-2], [0, 0, 0, 0, 0, 0]])
            self.assertEqual(all_that_is_kept(self.midway + [begun]), all_that_is_kept([begun]))

    def test_what_was_ahead_of_it_never_comes_back(self):
        calls = self.midway + [start(5, 0, 60), BORN]
        self.assertEqual(behind(calls, [BACK, BACK, AGAIN, AGAIN, name(4)]), [[0], [-2], [0], [-2], [4]])

    def test_refused(self):
        self.assertEqual(can_be(self.midway), [7, 2])
        for refused in (start(1, 1, 4), start(13, 1, 4), start(3, 4, 1), start(3, 1, 61), start(HIGHEST, 0, 0)):
            self.assertEqual(last(self.midway + [refused]), [-22])
            self.assertEqual(all_that_is_kept(self.midway + [refused]), all_that_is_kept(self.midway))


class State(unittest.TestCase):
    def test_at_the_beginning(self):
        self.assertEqual(last(BEGUN + [STATE]), [0, 0, 0, 0, 0, 0])

    def test_the_year_is_the_number(self):
        self.assertEqual(last(BEGUN + [go_by(7), STATE]), [7, 0, 0, 0, 1, 0])
        self.assertEqual(last(BEGUN + [go_by(300), STATE]), [300, 0, 0, 0, 1, 0])

    def test_people(self):
        self.assertEqual(last(BEGUN + [BORN] * 3 + [STATE]), [0, 3, 0, 0, 3, 0])
        self.assertEqual(last(BEGUN + [BORN] * 20 + [STATE]), [0, 20, 0, 0, 20, 0])

    def test_with_a_set_open_and_with_none(self):
        told = behind(BEGUN, [OPEN, STATE, SHUT, STATE, OPEN, STATE, SHUT, STATE])
        self.assertEqual(told[1::2], [[0, 0, 1, 1, 1, 0], [0, 0, 1, 0, 2, 0], [0, 0, 2, 2, 3, 0], [0, 0, 2, 0, 4, 0]])

    def test_sixteen_sets(self):
        self.assertEqual(last(BEGUN + sets_gone_by(15) + [OPEN, STATE]), [0, 0, 16, 16, 20, 0])
        self.assertEqual(last(BEGUN + sets_gone_by(16) + [STATE]), [0, 0, 16, 0, 20, 0])

    def test_all_in_their_order(self):
        self.assertEqual(last(LIVED + [go_by(9), BACK, STATE]), [3, 3, 2, 2, 9, 1])

    def test_ahead_of_and_behind_back_and_again(self):
        calls = BEGUN + [BORN, OPEN, go_by(4)]
        told = behind(calls, [STATE, BACK, STATE, BACK, STATE, AGAIN, STATE, BACK, BACK, STATE, BACK, STATE])
        self.assertEqual([answer for answer in told if len(answer) > 1], [
            [4, 1, 1, 1, 3, 0],
            [0, 1, 1, 1, 2, 1],
            [0, 1, 0, 0, 1, 2],
            [0, 1, 1, 1, 2, 1],
            [0, 0, 0, 0, 0, 3],
            [0, 0, 0, 0, 0, 3],
        ])

    def test_one_list_of_all_three(self):
        calls = BEGUN + [BORN, go_by(2), OPEN, JOIN_ALL, BACK, RANK, AGAIN, RANK, AGAIN]
        self.assertEqual(asked(calls)[5:], [[3], [0] + [0] * 20, [0], [1] + [0] * 20, [-2]])


if __name__ == "__main__":
    unittest.main()
