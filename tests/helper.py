"""Calls written by name, and their answers taken apart."""

import random
import unittest

from agesets.opened import answers

HIGHEST = 4294967295

BORN = [2]
OPEN = [3]
SHUT = [4]
JOIN_ALL = [6]
MAY = [12]
MISSED = [13]
TURNED = [15]
RANK = [16]
BACK = [19]
AGAIN = [20]
STATE = [21]


def start(names, youngest, oldest):
    return [0, names, youngest, oldest]


def go_by(years):
    return [1, years]


def join(person):
    return [5, person]


def age(person):
    return [7, person]


def whose(person):
    return [8, person]


def members(number):
    return [9, number]


def name(number):
    return [10, number]


def alike(number):
    return [11, number]


def senior(person, other):
    return [14, person, other]


def span(number):
    return [17, number]


def when(person):
    return [18, person]


def in_one_list(calls):
    return [number for call in calls for number in call]


def taken_apart(told):
    """The answers, one list each; the counts must fit the list to its end."""
    apart = []
    at = 0
    while at < len(told):
        behind = at + 1 + told[at]
        if told[at] < 1 or behind > len(told):
            raise ValueError(f"no such count at {at}: {told}")
        apart.append(told[at + 1:behind])
        at = behind
    return apart


def asked(calls):
    """Each call's answer, as a list of its own."""
    numbers = in_one_list(calls)
    if len(calls) > 1000 or len(numbers) > 5000:
        raise ValueError("more than is ever handed in")
    apart = taken_apart(answers(numbers))
    if len(apart) != len(calls):
        raise ValueError(f"{len(calls)} calls, {len(apart)} answers")
    return apart


def last(calls):
    return asked(calls)[-1]


def sets_gone_by(how_many):
    """So many sets, opened and shut with nobody in them."""
    return [OPEN, SHUT] * how_many


def drawn_start(chance):
    youngest = chance.randint(0, 4)
    return start(chance.randint(2, 12), youngest, youngest + chance.choice([0, 1, 2, 3, 5, 8, 20, 40]))


def drawn_person(chance, calls):
    """Mostly one who is there behind these calls, or the next one."""
    return chance.choice([chance.randint(0, min(20, calls.count(BORN)))] * 9 + [HIGHEST])


def drawn_set(chance, calls):
    """Mostly one that is there behind these calls, or the next one."""
    return chance.choice([chance.randint(0, min(16, calls.count(OPEN)))] * 9 + [HIGHEST])


def drawn_change(chance, calls):
    """A call that is a change, if it isn't refused."""
    person = drawn_person(chance, calls)
    years = chance.choice([1] * 15 + [0, 2, 3, 5, 300])
    return chance.choice([go_by(years)] * 3 + [BORN] * 4 + [OPEN, SHUT] * 3 + [JOIN_ALL] + [join(person)] * 6)


def drawn_question(chance, calls):
    person = drawn_person(chance, calls)
    other = drawn_person(chance, calls)
    number = drawn_set(chance, calls)
    return chance.choice([
        age(person), whose(person), when(person), senior(person, other), members(number), name(number), alike(number),
        span(number), MAY, MISSED, TURNED, RANK, STATE,
    ])


def drawn_changes(seed, how_many):
    """A start and so many calls that may be changes, always the same for one seed."""
    chance = random.Random(seed)
    calls = [drawn_start(chance)]
    while len(calls) <= how_many:
        calls.append(drawn_change(chance, calls))
    return calls


def drawn(seed, how_many):
    """A start and so many calls of every kind, always the same for one seed."""
    chance = random.Random(seed)
    calls = [drawn_start(chance)]
    while len(calls) <= how_many:
        kind = chance.randint(0, 199)
        if kind < 140:
            calls.append(drawn_change(chance, calls))
        elif kind < 185:
            calls.append(drawn_question(chance, calls))
        elif kind < 199:
            # Several in a row, so that more than the last change is taken back.
            calls += [BACK] * chance.choice([1, 1, 2, 5]) + [AGAIN] * chance.choice([0, 1, 2, 5])
        else:
            calls.append(chance.choice([drawn_start(chance), start(1, 0, 9), start(5, 9, 8), start(5, 0, 61)]))
    return calls[:how_many + 1]


def questions():
    """Every question, of everybody and every set that may be there, and of one more."""
    told = [MAY, MISSED, TURNED, RANK, STATE]
    for person in range(21):
        told += [age(person), whose(person), when(person)]
        told += [senior(person, other) for other in range(21)]
    for number in range(17):
        told += [members(number), name(number), alike(number), span(number)]
    return told


def short_questions():
    """Questions whose answers together tell how all stands."""
    told = [STATE, MAY, name(13)]
    for person in range(20):
        told += [age(person), whose(person), when(person)]
    return told


def probes():
    """Changes whose answers tell what no question does: which ages may join later, and how much room is left."""
    told = [JOIN_ALL, SHUT, SHUT, OPEN, BORN, go_by(1)]
    for step in range(60):
        told += [JOIN_ALL, BORN, go_by(1)]
    return told


def behind(calls, more):
    """What these further calls answer behind the calls."""
    return asked(calls + more)[len(calls):]


def answered_now(calls):
    """What every question answers behind these calls, but for how many changes can be taken back and done again."""
    told = behind(calls, questions())
    at = questions().index(STATE)
    told[at] = told[at][:4]
    return told


def all_that_is_kept(calls):
    """How all stands behind these calls, also if changes are taken back or done again."""
    told = [behind(calls, questions()), behind(calls, probes())]
    state = last(calls + [STATE])
    told += [behind(calls, [BACK] * (step + 1) + short_questions()) for step in range(state[4] + 1)]
    told += [behind(calls, [AGAIN] * (step + 1) + short_questions()) for step in range(state[5] + 1)]
    return told


class Refusing(unittest.TestCase):
    """For tests of refusals: the number stands alone, and all is as it was."""

    def assert_refused(self, calls, call, number):
        self.assertEqual(last(calls + [call]), [number])
        self.assertEqual(all_that_is_kept(calls + [call]), all_that_is_kept(calls))
