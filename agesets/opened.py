"""The calls on one object, and the list of their answers."""

from agesets.people import Roll

NOT_THERE = -2
NOTHING_DUE = -6
NONE_OPEN = -16
ALREADY = -17
NOT_AS_ASKED = -22
FULL = -28
IN_NO_SET = -33

FEWEST_NAMES = 2
MOST_NAMES = 12
HIGHEST_AGE = 60
LAST_YEAR = 300
MOST_PEOPLE = 20
MOST_SETS = 16


def as_a_set(chosen):
    """How many are chosen, then 2 to the power of each one's number, together."""
    how_many = 0
    together = 0
    power = 1
    for is_chosen in chosen:
        if is_chosen:
            how_many += 1
            together += power
        power += power
    return [how_many, together]


def os_start(roll, numbers):
    names = numbers[0]
    youngest = numbers[1]
    oldest = numbers[2]
    if names < FEWEST_NAMES or names > MOST_NAMES:
        return [NOT_AS_ASKED]
    if oldest < youngest or oldest > HIGHEST_AGE:
        return [NOT_AS_ASKED]
    roll.begin(names, youngest, oldest)
    return [0]


def os_pass(roll, numbers):
    years = numbers[0]
    if years == 0 or roll.year + years > LAST_YEAR:
        return [NOT_AS_ASKED]
    roll.year += years
    return [roll.year]


def os_born(roll, numbers):
    person = len(roll.birth_years)
    if person == MOST_PEOPLE:
        return [FULL]
    roll.add_person()
    return [person]


def os_open(roll, numbers):
    if roll.one_is_open:
        return [ALREADY]
    if roll.set_count == MOST_SETS:
        return [FULL]
    roll.open_next()
    opened = roll.last_set()
    return [opened, roll.name_of(opened)]


def os_shut(roll, numbers):
    if not roll.one_is_open:
        return [NOTHING_DUE]
    roll.one_is_open = False
    return [roll.set_of.count(roll.last_set())]


def os_join(roll, numbers):
    person = numbers[0]
    if not roll.is_person(person):
        return [NOT_THERE]
    if roll.is_in_a_set(person):
        return [ALREADY]
    if not roll.one_is_open:
        return [NONE_OPEN]
    if not roll.is_of_age(person):
        return [NOT_AS_ASKED]
    roll.put_in_open(person)
    return [roll.last_set()]


def os_join_all(roll, numbers):
    if not roll.one_is_open:
        return [NONE_OPEN]
    # Who may join is settled ahead of the first one's joining.
    joining = [roll.may_join(person) for person in range(len(roll.birth_years))]
    if not any(joining):
        return [NOTHING_DUE]
    for person, joins in enumerate(joining):
        if joins:
            roll.put_in_open(person)
    return as_a_set(joining)


def os_age(roll, numbers):
    person = numbers[0]
    if not roll.is_person(person):
        return [NOT_THERE]
    return [roll.age_of(person)]


def os_whose(roll, numbers):
    person = numbers[0]
    if not roll.is_person(person):
        return [NOT_THERE]
    if not roll.is_in_a_set(person):
        return [IN_NO_SET]
    joined = roll.set_of[person]
    return [joined, roll.name_of(joined)]


def os_members(roll, numbers):
    number = numbers[0]
    if not roll.is_set(number):
        return [NOT_THERE]
    return as_a_set(roll.are_in(number))


def os_name(roll, numbers):
    return [roll.name_of(numbers[0])]


# By a call's number: what answers it, and how many whole numbers stand behind it.
CALLS = (
    (os_start, 3),
    (os_pass, 1),
    (os_born, 0),
    (os_open, 0),
    (os_shut, 0),
    (os_join, 1),
    (os_join_all, 0),
    (os_age, 1),
    (os_whose, 1),
    (os_members, 1),
    (os_name, 1),
)


def answers(calls):
    """For each call, in order: how many numbers are answered, then these."""
    roll = Roll()
    told = []
    at = 0
    while at < len(calls):
        call = CALLS[calls[at]]
        behind = at + 1 + call[1]
        answer = call[0](roll, calls[at + 1:behind])
        told.append(len(answer))
        told.extend(answer)
        at = behind
    return told
