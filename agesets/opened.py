"""The calls on one object, and the list of their answers."""

from agesets.people import Roll

NOT_THERE = -2
NOTHING_DUE = -6
NONE_OPEN = -16
ALREADY = -17
NOT_AS_ASKED = -22
FULL = -28
IN_NO_SET = -33
NOBODY_IN_IT = -33

NEITHER_IS_SENIOR = 0
FIRST_IS_SENIOR = 1
SECOND_IS_SENIOR = 2

FEWEST_NAMES = 2
MOST_NAMES = 12
HIGHEST_AGE = 60
LAST_YEAR = 300
MOST_PEOPLE = 20
MOST_SETS = 16


def as_a_set(chosen):
    """How many are chosen, then 2 to the power of each one's number, together."""
    how_many = 0
    together = 0
    power = 1
    for is_chosen in chosen:
        if is_chosen:
            how_many += 1
            together += power
        power += power
    return [how_many, together]


def os_start(roll, numbers):
    names = numbers[0]
    youngest = numbers[1]
    oldest = numbers[2]
    if names < FEWEST_NAMES or names > MOST_NAMES:
        return [NOT_AS_ASKED]
    if oldest < youngest or oldest > HIGHEST_AGE:
        return [NOT_AS_ASKED]
    roll.begin(names, youngest, oldest)
    return [0]


def os_pass(roll, numbers):
    years = numbers[0]
    if years == 0 or roll.year + years > LAST_YEAR:
        return [NOT_AS_ASKED]
    roll.year += years
    return [roll.year]


def os_born(roll, numbers):
    person = len(roll.birth_years)
    if person == MOST_PEOPLE:
        return [FULL]
    roll.add_person()
    return [person]


def os_open(roll, numbers):
    if roll.one_is_open:
        return [ALREADY]
    if roll.set_count == MOST_SETS:
        return [FULL]
    roll.open_next()
    opened = roll.last_set()
    return [opened, roll.name_of(opened)]


def os_shut(roll, numbers):
    if not roll.one_is_open:
        return [NOTHING_DUE]
    roll.one_is_open = False
    return [roll.set_of.count(roll.last_set())]


def os_join(roll, numbers):
    person = numbers[0]
    if not roll.is_person(person):
        return [NOT_THERE]
    if roll.is_in_a_set(person):
        return [ALREADY]
    if not roll.one_is_open:
        return [NONE_OPEN]
    if not roll.is_of_age(person):
        return [NOT_AS_ASKED]
    roll.put_in_open(person)
    return [roll.last_set()]


def os_join_all(roll, numbers):
    if not roll.one_is_open:
        return [NONE_OPEN]
    # Who may join is settled ahead of the first one's joining.
    joining = roll.who_may_join()
    if not any(joining):
        return [NOTHING_DUE]
    for person, joins in enumerate(joining):
        if joins:
            roll.put_in_open(person)
    return as_a_set(joining)


def os_age(roll, numbers):
    person = numbers[0]
    if not roll.is_person(person):
        return [NOT_THERE]
    return [roll.age_of(person)]


def os_whose(roll, numbers):
    person = numbers[0]
    if not roll.is_person(person):
        return [NOT_THERE]
    if not roll.is_in_a_set(person):
        return [IN_NO_SET]
    joined = roll.set_of[person]
    return [joined, roll.name_of(joined)]


def os_members(roll, numbers):
    number = numbers[0]
    if not roll.is_set(number):
        return [NOT_THERE]
    return as_a_set(roll.are_in(number))


def os_name(roll, numbers):
    return [roll.name_of(numbers[0])]


def os_alike(roll, numbers):
    number = numbers[0]
    if not roll.is_set(number):
        return [NOT_THERE]
    return as_a_set(roll.have_the_name_of(number))


def os_may(roll, numbers):
    return as_a_set(roll.who_may_join())


def os_missed(roll, numbers):
    return as_a_set(roll.who_has_missed())


def os_senior(roll, numbers):
    first = numbers[0]
    second = numbers[1]
    if not roll.is_person(first) or not roll.is_person(second):
        return [NOT_THERE]
    if not roll.is_in_a_set(first) or not roll.is_in_a_set(second):
        return [IN_NO_SET]
    if roll.is_senior(first, second):
        return [FIRST_IS_SENIOR]
    if roll.is_senior(second, first):
        return [SECOND_IS_SENIOR]
    return [NEITHER_IS_SENIOR]


def os_turned(roll, numbers):
    apart = roll.turned_apart()
    return [len(apart), max(apart, default=0)]


def os_rank(roll, numbers):
    ranked = roll.ranked()
    return [len(ranked)] + ranked + [0] * (MOST_PEOPLE - len(ranked))


def os_span(roll, numbers):
    number = numbers[0]
    if not roll.is_set(number):
        return [NOT_THERE]
    born = roll.birth_years_in(number)
    if len(born) == 0:
        return [NOBODY_IN_IT]
    first = min(born)
    last = max(born)
    return [last - first, first, last]


def os_when(roll, numbers):
    person = numbers[0]
    if not roll.is_person(person):
        return [NOT_THERE]
    if not roll.is_in_a_set(person):
        return [IN_NO_SET]
    return [roll.join_years[person], roll.age_at_joining(person)]


def os_back(roll, numbers):
    if len(roll.stood_ahead) == 0:
        return [NOT_THERE]
    roll.take_back()
    return [len(roll.stood_ahead)]


def os_again(roll, numbers):
    if len(roll.stood_behind) == 0:
        return [NOT_THERE]
    roll.do_again()
    return [len(roll.stood_behind)]


def os_state(roll, numbers):
    one_more = roll.last_set() + 1 if roll.one_is_open else 0
    return [
        roll.year,
        len(roll.birth_years),
        roll.set_count,
        one_more,
        len(roll.stood_ahead),
        len(roll.stood_behind),
    ]


# By a call's number: what answers it, how many whole numbers stand behind it, whether it is a change.
CALLS = (
    (os_start, 3, False),
    (os_pass, 1, True),
    (os_born, 0, True),
    (os_open, 0, True),
    (os_shut, 0, True),
    (os_join, 1, True),
    (os_join_all, 0, True),
    (os_age, 1, False),
    (os_whose, 1, False),
    (os_members, 1, False),
    (os_name, 1, False),
    (os_alike, 1, False),
    (os_may, 0, False),
    (os_missed, 0, False),
    (os_senior, 2, False),
    (os_turned, 0, False),
    (os_rank, 0, False),
    (os_span, 1, False),
    (os_when, 1, False),
    (os_back, 0, False),
    (os_again, 0, False),
    (os_state, 0, False),
)


def answer_to(roll, call, numbers):
    """What a call answers. One that is a change, and isn't refused, can be taken back."""
    if not call[2]:
        return call[0](roll, numbers)
    stood = roll.standing()
    answer = call[0](roll, numbers)
    if answer[0] >= 0:
        roll.note_change(stood)
    return answer


def answers(calls):
    """For each call, in order: how many numbers are answered, then these."""
    roll = Roll()
    told = []
    at = 0
    while at < len(calls):
        call = CALLS[calls[at]]
        behind = at + 1 + call[1]
        answer = answer_to(roll, call, calls[at + 1:behind])
        told.append(len(answer))
        told.extend(answer)
        at = behind
    return told
