"""Each answer over many drawn lists of calls, against a ledger that keeps the changes themselves."""

import unittest

from helper import all_that_is_kept, asked, drawn


def together(numbers):
    return sum(2 ** number for number in numbers)


def as_a_set(numbers):
    return [len(numbers), together(numbers)]


class Ledger:
    """What should be answered. To take a change back, all the others are made anew from the start."""

    def __init__(self):
        self.begun = self.changes = self.undone = None
        self.room_back = 0

    def due(self, call):
        answer = getattr(self, "due_%d" % call[0])(*call[1:])
        answer = answer if isinstance(answer, list) else [answer]
        if call[0] in range(1, 7) and answer[0] >= 0:
            self.changes.append(call)
            self.undone = []
            self.room_back = min(20, self.room_back + 1)
        return answer

    def made_anew(self):
        self.names, self.youngest, self.oldest = self.begun
        self.year = self.sets = 0
        self.born = []
        self.in_set = {}
        self.joined = {}
        self.shut = True
        for call in self.changes:
            getattr(self, "due_%d" % call[0])(*call[1:])

    def there(self, *people):
        return all(person in range(len(self.born)) for person in people)

    def of_age(self, person):
        return self.year - self.born[person] in range(self.youngest, self.oldest + 1)

    def due_0(self, names, youngest, oldest):
        if names not in range(2, 13) or youngest not in range(oldest + 1) or oldest not in range(61):
            return -22
        self.begun, self.changes, self.undone, self.room_back = (names, youngest, oldest), [], [], 0
        self.made_anew()
        return 0

    def due_1(self, years):
        if years not in range(1, 301 - self.year):
            return -22
        self.year += years
        return self.year

    def due_2(self):
        if len(self.born) >= 20:
            return -28
        self.born.append(self.year)
        return len(self.born) - 1

    def due_3(self):
        if not self.shut or self.sets >= 16:
            return -28 if self.shut else -17
        self.shut = False
        self.sets += 1
        return [self.sets - 1, (self.sets - 1) % self.names]

    def due_4(self):
        if self.shut:
            return -6
        self.shut = True
        return list(self.in_set.values()).count(self.sets - 1)

    def due_5(self, person):
        if not self.there(person):
            return -2
        refusals = [(person in self.in_set, -17), (self.shut, -16), (not self.of_age(person), -22)]
        for is_due, number in refusals:
            if is_due:
                return number
        self.in_set[person] = self.sets - 1
        self.joined[person] = [self.year, self.year - self.born[person]]
        return self.sets - 1

    def due_6(self):
        if self.shut:
            return -16
        joined = [person for person in range(len(self.born)) if self.due_5(person) >= 0]
        return as_a_set(joined) if joined else -6

    def due_7(self, person):
        return self.year - self.born[person] if self.there(person) else -2

    def due_8(self, person):
        if not self.there(person):
            return -2
        return [self.in_set[person], self.in_set[person] % self.names] if person in self.in_set else -33

    def due_9(self, number):
        return as_a_set(self.members_of(number)) if number < self.sets else -2

    def members_of(self, number):
        return [person for person in self.in_set if self.in_set[person] == number]

    def due_10(self, number):
        return number % self.names

    def due_11(self, number):
        return as_a_set(range(number % self.names, self.sets, self.names)) if number < self.sets else -2

    def in_none(self):
        return [person for person in range(len(self.born)) if person not in self.in_set]

    def due_12(self):
        return as_a_set([person for person in self.in_none() if self.of_age(person)])

    def due_13(self):
        return as_a_set([person for person in self.in_none() if self.born[person] + self.oldest < self.year])

    def due_14(self, person, other):
        if not self.there(person, other):
            return -2
        if person not in self.in_set or other not in self.in_set:
            return -33
        apart = self.in_set[other] - self.in_set[person]
        return 0 if apart == 0 else 1 if apart > 0 else 2

    def due_15(self):
        apart = [
            self.born[later] - self.born[sooner]
            for sooner in self.in_set
            for later in self.in_set
            if self.born[later] > self.born[sooner] and self.in_set[later] < self.in_set[sooner]
        ]
        return [len(apart), max(apart + [0])]

    def due_16(self):
        told = []
        for number in range(self.sets):
            for year in range(self.year + 1):
                told += [person for person in sorted(self.members_of(number)) if self.born[person] == year]
        return [len(told)] + (told + [0] * 20)[:20]

    def due_17(self, number):
        if number >= self.sets:
            return -2
        born = sorted(self.born[person] for person in self.members_of(number))
        return [born[-1] - born[0], born[0], born[-1]] if born else -33

    def due_18(self, person):
        if not self.there(person):
            return -2
        return self.joined.get(person, -33)

    def due_19(self):
        if not self.room_back:
            return -2
        self.room_back -= 1
        self.undone.append(self.changes.pop())
        self.made_anew()
        return self.room_back

    def due_20(self):
        if not self.undone:
            return -2
        self.room_back += 1
        self.changes.append(self.undone.pop())
        self.made_anew()
        return len(self.undone)

    def due_21(self):
        opened = 0 if self.shut else self.sets
        return [self.year, len(self.born), self.sets, opened, self.room_back, len(self.undone)]


class Walks(unittest.TestCase):
    def assert_each_as_due(self, calls):
        ledger = Ledger()
        self.assertEqual(asked(calls), [ledger.due(call) for call in calls])

    def test_each_answer_is_the_one_that_is_due(self):
        for seed in range(150):
            self.assert_each_as_due(drawn(seed, 400))

    def test_the_longest_lists(self):
        for seed in range(1000, 1010):
            self.assert_each_as_due(drawn(seed, 999))

    def test_what_was_refused_left_all_as_it_was(self):
        for seed in range(60):
            calls = drawn(seed, 300)
            answered = [call for call, told in zip(calls, asked(calls)) if told[0] >= 0]
            self.assertEqual(all_that_is_kept(answered), all_that_is_kept(calls))

    def test_a_question_left_all_as_it_was(self):
        for seed in range(60, 120):
            calls = drawn(seed, 300)
            others = [call for call in calls if call[0] not in range(7, 19) and call[0] != 21]
            self.assertEqual(all_that_is_kept(others), all_that_is_kept(calls))

    def test_every_answer_and_every_refusal_is_drawn(self):
        seen = set()
        for seed in range(150):
            calls = drawn(seed, 400)
            seen |= {(call[0], min(told[0], 0)) for call, told in zip(calls, asked(calls))}
        refusals = {
            0: [-22], 1: [-22], 2: [-28], 3: [-17, -28], 4: [-6], 5: [-2, -17, -16, -22], 6: [-16, -6], 7: [-2],
            8: [-2, -33], 9: [-2], 11: [-2], 14: [-2, -33], 17: [-2, -33], 18: [-2, -33], 19: [-2], 20: [-2],
        }
        due = {(call, number) for call in range(22) for number in [0] + refusals.get(call, [])}
        self.assertEqual(seen, due)


if __name__ == "__main__":
    unittest.main()
