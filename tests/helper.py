"""Calls written by name, and their answers taken apart."""

import unittest

from agesets.opened import answers

HIGHEST = 4294967295

BORN = [2]
OPEN = [3]
SHUT = [4]
JOIN_ALL = [6]


def start(names, youngest, oldest):
    return [0, names, youngest, oldest]


def go_by(years):
    return [1, years]


def join(person):
    return [5, person]


def age(person):
    return [7, person]


def whose(person):
    return [8, person]


def members(number):
    return [9, number]


def name(number):
    return [10, number]


def in_one_list(calls):
    return [number for call in calls for number in call]


def taken_apart(told):
    """The answers, one list each; the counts must fit the list to its end."""
    apart = []
    at = 0
    while at < len(told):
        behind = at + 1 + told[at]
        if told[at] < 1 or behind > len(told):
            raise ValueError(f"no such count at {at}: {told}")
        apart.append(told[at + 1:behind])
        at = behind
    return apart


def asked(calls):
    """Each call's answer, as a list of its own."""
    apart = taken_apart(answers(in_one_list(calls)))
    if len(apart) != len(calls):
        raise ValueError(f"{len(calls)} calls, {len(apart)} answers")
    return apart


def last(calls):
    return asked(calls)[-1]


def sets_gone_by(how_many):
    """So many sets, opened and shut with nobody in them."""
    return [OPEN, SHUT] * how_many


def probes():
    """Calls whose answers together tell all that is kept."""
    told = [name(13)]
    told += [age(person) for person in range(21)]
    told += [whose(person) for person in range(21)]
    told += [members(number) for number in range(17)]
    # What no question tells yet is told by what a change answers: which ages
    # may join, whether a set is open, the year, and how much room is left.
    told += [JOIN_ALL, SHUT, SHUT, OPEN, BORN, go_by(1)]
    for step in range(60):
        told += [JOIN_ALL, BORN, go_by(1)]
    return told


def all_that_is_kept(calls):
    """What the probes answer behind these calls."""
    return asked(calls + probes())[len(calls):]


class Refusing(unittest.TestCase):
    """For tests of refusals: the number stands alone, and all is as it was."""

    def assert_refused(self, calls, call, number):
        self.assertEqual(last(calls + [call]), [number])
        self.assertEqual(all_that_is_kept(calls + [call]), all_that_is_kept(calls))
