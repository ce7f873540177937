"""What holds, over many made-up lists of calls."""

import random
import unittest

from helper import (
    BORN, HIGHEST, JOIN_ALL, OPEN, SHUT, age, all_that_is_kept, asked, go_by, join, members, name, start, whose,
)


def made_up(seed):
    """A list of calls, always the same for one seed."""
    chance = random.Random(seed)
    youngest = chance.randint(0, 6)
    calls = [start(chance.randint(2, 12), youngest, youngest + chance.randint(0, 8))]
    while len(calls) < 150:
        person = chance.choice([chance.randint(0, 20), HIGHEST])
        number = chance.choice([chance.randint(0, 16), HIGHEST])
        calls.append(chance.choice([
            go_by(chance.choice([0, 1, 1, 2, 3, 300])), go_by(1), BORN, BORN, OPEN, SHUT, join(chance.randint(0, 9)),
            join(person), JOIN_ALL, age(person), whose(person), members(number), name(number),
        ]))
    return calls


def together(people):
    return sum(2 ** person for person in people)


class Ledger:
    """What should be answered, kept from the changes that were answered."""

    def __init__(self, begun):
        self.names, self.youngest, self.oldest = begun[1:]
        self.year = 0
        self.born = []
        self.in_set = {}
        self.sets = 0
        self.shut = True

    def due(self, call):
        answer = getattr(self, "due_%d" % call[0])(*call[1:])
        return answer if isinstance(answer, list) else [answer]

    def of_age(self, person):
        return self.year - self.born[person] in range(self.youngest, self.oldest + 1)

    def due_1(self, years):
        if years not in range(1, 301 - self.year):
            return -22
        self.year += years
        return self.year

    def due_2(self):
        if len(self.born) >= 20:
            return -28
        self.born.append(self.year)
        return len(self.born) - 1

    def due_3(self):
        if not self.shut or self.sets >= 16:
            return -28 if self.shut else -17
        self.shut = False
        self.sets += 1
        return [self.sets - 1, (self.sets - 1) % self.names]

    def due_4(self):
        if self.shut:
            return -6
        self.shut = True
        return list(self.in_set.values()).count(self.sets - 1)

    def due_5(self, person):
        if person not in range(len(self.born)):
            return -2
        refusals = [(person in self.in_set, -17), (self.shut, -16), (not self.of_age(person), -22)]
        for is_due, number in refusals:
            if is_due:
                return number
        self.in_set[person] = self.sets - 1
        return self.sets - 1

    def due_6(self):
        if self.shut:
            return -16
        joined = [person for person in range(len(self.born)) if self.due_5(person) >= 0]
        return [len(joined), together(joined)] if joined else -6

    def due_7(self, person):
        return self.year - self.born[person] if person < len(self.born) else -2

    def due_8(self, person):
        if person >= len(self.born):
            return -2
        return [self.in_set[person], self.in_set[person] % self.names] if person in self.in_set else -33

    def due_9(self, number):
        people = [person for person in self.in_set if self.in_set[person] == number]
        return [len(people), together(people)] if number < self.sets else -2

    def due_10(self, number):
        return number % self.names


class Walks(unittest.TestCase):
    def test_each_answer_is_the_one_that_is_due(self):
        for seed in range(300):
            calls = made_up(seed)
            ledger = Ledger(calls[0])
            due = [[0]] + [ledger.due(call) for call in calls[1:]]
            self.assertEqual(asked(calls), due)

    def test_what_was_refused_left_all_as_it_was(self):
        for seed in range(100):
            calls = made_up(seed)
            answered = [call for call, told in zip(calls, asked(calls)) if told[0] >= 0]
            self.assertEqual(all_that_is_kept(answered), all_that_is_kept(calls))

    def test_all_at_once_or_one_by_one(self):
        for seed in range(100):
            calls = made_up(seed)
            one_by_one = []
            for call in calls:
                one_by_one += [join(person) for person in range(20)] if call == JOIN_ALL else [call]
            self.assertEqual(all_that_is_kept(one_by_one), all_that_is_kept(calls))

    def test_each_is_in_one_set_at_most(self):
        for seed in range(100):
            told = asked(made_up(seed) + [members(number) for number in range(16)])[-16:]
            seen = 0
            for who in [answer[1] for answer in told if answer[0] >= 0]:
                self.assertEqual(seen & who, 0)
                seen |= who


if __name__ == "__main__":
    unittest.main()
