"""What holds, row by row, over many drawn lists of calls: told by the program's answers alone."""

import unittest

from helper import (
    AGAIN, BACK, JOIN_ALL, MISSED, OPEN, RANK, SHUT, STATE, TURNED, age, alike, all_that_is_kept, answered_now, asked,
    behind, drawn, drawn_changes, join, members, probes, senior, when, whose,
)

PEOPLE = range(20)
SETS = range(16)


def begun(calls):
    """The start that the calls end under: names, youngest and oldest age."""
    return [call for call, told in zip(calls, asked(calls)) if call[0] == 0 and told == [0]][-1][1:]


def birth_years(calls):
    year = behind(calls, [STATE])[0][0]
    ages = behind(calls, [age(person) for person in PEOPLE])
    return [year - told[0] for told in ages if told[0] >= 0]


def seniors(calls):
    """Each two of whom the first is the second's senior: as told by 1, and as told by 2 the other way round."""
    twos = [(person, other) for person in PEOPLE for other in PEOPLE]
    told = behind(calls, [senior(person, other) for person, other in twos])
    first = [two for two, answer in zip(twos, told) if answer == [1]]
    second = [(two[1], two[0]) for two, answer in zip(twos, told) if answer == [2]]
    return first, second


def sets_of_people(calls):
    """By person, of those alone who are in a set."""
    told = behind(calls, [whose(person) for person in PEOPLE])
    return {person: answer[0] for person, answer in enumerate(told) if answer[0] >= 0}


def among(mask):
    return [number for number in range(32) if mask >> number & 1]


def that_stand(calls):
    """The last start and the changes behind it that weren't taken back, by the calls' answers."""
    stand = []
    undone = []
    for call, told in zip(calls, asked(calls)):
        if told[0] < 0:
            continue
        if call[0] == 0:
            stand = [call]
            undone = []
        elif call[0] <= 6:
            stand.append(call)
            undone = []
        elif call == BACK:
            undone.append(stand.pop())
        elif call == AGAIN:
            stand.append(undone.pop())
    return stand


class TurnedOnlyIfNear(unittest.TestCase):
    def test_no_more_years_than_the_ages_differ(self):
        nearest = []
        for seed in range(100):
            calls = drawn(seed, 300)
            names, youngest, oldest = begun(calls)
            born = birth_years(calls)
            apart = [born[person] - born[other] for person, other in seniors(calls)[0] if born[person] > born[other]]
            self.assertLessEqual(max(apart + [0]), oldest - youngest)
            self.assertEqual(behind(calls, [TURNED]), [[len(apart), max(apart + [0])]])
            nearest += [oldest - youngest - years for years in apart]
        # Some were turned, and some as far as may be.
        self.assertEqual(min(nearest), 0)


class InTime(unittest.TestCase):
    def test_one_behind_another(self):
        for seed in range(100):
            calls = that_stand(drawn(seed, 300))
            was_open = 0
            opened = 0
            for call, told in zip(calls, asked([more for call in calls for more in (call, STATE)])[1::2]):
                if call == OPEN:
                    self.assertEqual(was_open, 0)
                    opened += 1
                    self.assertEqual(told[2:4], [opened, opened])
                elif call == SHUT:
                    self.assertEqual(was_open, opened)
                    self.assertEqual(told[2:4], [opened, 0])
                else:
                    self.assertEqual(told[2:4], [opened, was_open])
                was_open = told[3]

    def test_joined_while_it_was_open_and_of_such_an_age(self):
        joined = 0
        for seed in range(100):
            calls = that_stand(drawn(seed, 300))
            names, youngest, oldest = begun(calls)
            born = birth_years(calls)
            sets = {}
            for step in range(len(calls)):
                now = sets_of_people(calls[:step + 1])
                year, people, count, one_open = behind(calls[:step + 1], [STATE])[0][:4]
                for person in now:
                    if person in sets:
                        self.assertEqual(now[person], sets[person])
                        continue
                    joined += 1
                    self.assertEqual(now[person], one_open - 1)
                    self.assertIn(year - born[person], range(youngest, oldest + 1))
                    self.assertEqual(behind(calls, [when(person)]), [[year, year - born[person]]])
                self.assertLessEqual(set(sets), set(now))
                sets = now
        self.assertGreater(joined, 300)


class SeniorsAndNames(unittest.TestCase):
    def test_the_senior_of_a_senior_is_one(self):
        for seed in range(100):
            first, second = seniors(drawn(seed, 300))
            self.assertEqual(sorted(first), sorted(second))
            is_senior = set(first)
            for person, other in first:
                self.assertNotIn((other, person), is_senior)
                for third in PEOPLE:
                    if (other, third) in is_senior:
                        self.assertIn((person, third), is_senior)

    def test_names_come_again_behind_as_many_sets(self):
        for seed in range(100):
            calls = drawn_changes(seed, 200)
            names = begun(calls)[0]
            told = [answer[1] for call, answer in zip(calls, asked(calls)) if call == OPEN and answer[0] >= 0]
            for number, its_name in enumerate(told):
                sooner = told[max(0, number - names + 1):number]
                self.assertNotIn(its_name, sooner)
                if number >= names:
                    self.assertEqual(its_name, told[number - names])
                like = among(behind(calls, [alike(number)])[0][1])
                self.assertEqual(like, [other for other in range(len(told)) if told[other] == its_name])
                self.assertEqual({further - nearer for nearer, further in zip(like, like[1:])} - {names}, set())


class MissedForGood(unittest.TestCase):
    def test_in_no_set_ever(self):
        have_missed = 0
        for seed in range(100):
            calls = that_stand(drawn(seed, 300))
            missed = set()
            for step in range(len(calls)):
                now = set(among(behind(calls[:step + 1], [MISSED])[0][1]))
                self.assertLessEqual(missed, now)
                missed = now
            self.assertEqual(missed & set(sets_of_people(calls)), set())
            have_missed += len(missed)
            for person in sorted(missed):
                shut = [SHUT] if behind(calls, [STATE])[0][3] else []
                self.assertIn(behind(calls + shut + [OPEN], [join(person)]), [[[-22]], [[-16]]])
        self.assertGreater(have_missed, 100)


class AllInOrder(unittest.TestCase):
    def test_each_once_the_seniors_first(self):
        for seed in range(100):
            calls = drawn(seed, 300)
            sets = sets_of_people(calls)
            born = birth_years(calls)
            told = behind(calls, [RANK])[0]
            ranked = told[1:1 + told[0]]
            self.assertEqual(len(told), 21)
            self.assertEqual(told[1 + told[0]:], [0] * (20 - told[0]))
            self.assertEqual(sorted(ranked), sorted(sets))
            places = [(sets[person], born[person], person) for person in ranked]
            self.assertEqual(places, sorted(places))

    def test_each_in_one_set_at_most(self):
        for seed in range(100):
            told = behind(drawn(seed, 300), [members(number) for number in SETS])
            seen = 0
            for answer in told:
                if answer[0] >= 0:
                    self.assertEqual(seen & answer[1], 0)
                    seen |= answer[1]


class AllAtOnceOrOneByOne(unittest.TestCase):
    def test_who_may_join_has_joined(self):
        for seed in range(100):
            calls = drawn_changes(seed, 100)
            one_by_one = []
            for call in calls:
                one_by_one += [join(person) for person in PEOPLE] if call == JOIN_ALL else [call]
            self.assertEqual(answered_now(one_by_one), answered_now(calls))
            self.assertEqual(behind(one_by_one, probes()), behind(calls, probes()))


class TakenBack(unittest.TestCase):
    def test_what_stands_is_as_if_nothing_else_had_been(self):
        for seed in range(100):
            calls = drawn(seed, 300)
            stand = that_stand(calls)
            self.assertEqual(answered_now(stand), answered_now(calls))
            self.assertEqual(behind(stand, probes()), behind(calls, probes()))

    def test_every_question_answers_as_it_did(self):
        for seed in range(100, 120):
            calls = drawn_changes(seed, 120)
            stand = that_stand(calls)
            for back in range(1, 1 + min(20, len(stand) - 1)):
                taken_back = calls + [BACK] * back
                self.assertEqual(answered_now(taken_back), answered_now(stand[:-back]))
                self.assertEqual(answered_now(taken_back + [AGAIN] * back), answered_now(calls))
            self.assertEqual(behind(calls + [BACK] * 20, [BACK]), [[-2]])

    def test_each_change_as_it_is_made(self):
        for seed in range(200, 220):
            calls = drawn_changes(seed, 40)
            for step, told in enumerate(asked(calls)):
                if step > 0 and told[0] >= 0:
                    changed = calls[:step + 1]
                    self.assertEqual(answered_now(changed + [BACK]), answered_now(calls[:step]))
                    self.assertEqual(all_that_is_kept(changed + [BACK, AGAIN]), all_that_is_kept(changed))


if __name__ == "__main__":
    unittest.main()
