"""The people and the sets of one object: what is kept of them, and what follows from it."""

NO_SET = -1
MOST_TAKEN_BACK = 20


class Roll:
    """All that one object keeps. A person and a set are their numbers."""

    def __init__(self):
        # The document asks nothing ahead of an os_start; these only make the object whole till then.
        self.begin(1, 0, 0)

    def begin(self, names, youngest, oldest):
        """Year 0, with no people, no sets and no changes."""
        self.names = names
        self.youngest = youngest
        self.oldest = oldest
        self.year = 0
        self.birth_years = []
        self.set_of = []
        # By person, of those alone who are in a set.
        self.join_years = {}
        self.set_count = 0
        self.one_is_open = False
        # How all stood ahead of each change that can be taken back, and behind each that can be done again.
        self.stood_ahead = []
        self.stood_behind = []

    def is_person(self, person):
        return person < len(self.birth_years)

    def is_set(self, number):
        return number < self.set_count

    def is_in_a_set(self, person):
        return self.set_of[person] != NO_SET

    def age_of(self, person):
        return self.year - self.birth_years[person]

    def age_at_joining(self, person):
        return self.join_years[person] - self.birth_years[person]

    def is_of_age(self, person):
        return self.youngest <= self.age_of(person) <= self.oldest

    def may_join(self, person):
        """Whether one may join as a set is opened: an open one is not asked for."""
        return not self.is_in_a_set(person) and self.is_of_age(person)

    def has_missed(self, person):
        return not self.is_in_a_set(person) and self.age_of(person) > self.oldest

    def name_of(self, number):
        return number % self.names

    def last_set(self):
        """The set that is open, if one is: only the last one can be."""
        return self.set_count - 1

    def people(self):
        return list(range(len(self.birth_years)))

    def who_may_join(self):
        """For each person in order, whether they may join."""
        return [self.may_join(person) for person in self.people()]

    def who_has_missed(self):
        """For each person in order, whether they have missed it."""
        return [self.has_missed(person) for person in self.people()]

    def are_in(self, number):
        """For each person in order, whether they are in this set."""
        return [joined == number for joined in self.set_of]

    def birth_years_in(self, number):
        return [self.birth_years[person] for person in self.people() if self.set_of[person] == number]

    def have_the_name_of(self, number):
        """For each set in order, whether its name is this one's."""
        return [self.name_of(other) == self.name_of(number) for other in range(self.set_count)]

    def is_senior(self, person, other):
        """Of two who are in sets, whether the first is the second's senior."""
        return self.set_of[person] < self.set_of[other]

    def place_of(self, person):
        return (self.set_of[person], self.birth_years[person], person)

    def ranked(self):
        """All who are in a set, the seniors first."""
        joined = [person for person in self.people() if self.is_in_a_set(person)]
        return sorted(joined, key=self.place_of)

    def turned_apart(self):
        """For each two who are turned, by how many years they were born apart."""
        apart = []
        joined = self.ranked()
        for person in joined:
            for other in joined:
                years = self.birth_years[person] - self.birth_years[other]
                if years > 0 and self.is_senior(person, other):
                    apart.append(years)
        return apart

    def add_person(self):
        self.birth_years.append(self.year)
        self.set_of.append(NO_SET)

    def open_next(self):
        self.set_count += 1
        self.one_is_open = True

    def put_in_open(self, person):
        self.set_of[person] = self.last_set()
        self.join_years[person] = self.year

    def standing(self):
        """A copy of all that a change may change."""
        return (
            self.year,
            list(self.birth_years),
            list(self.set_of),
            dict(self.join_years),
            self.set_count,
            self.one_is_open,
        )

    def stand_as(self, stood):
        """All is as it stood; what is handed in is kept nowhere else, so it needs no further copy."""
        self.year = stood[0]
        self.birth_years = stood[1]
        self.set_of = stood[2]
        self.join_years = stood[3]
        self.set_count = stood[4]
        self.one_is_open = stood[5]

    def note_change(self, stood):
        """A change was made where all stood so: it can be taken back, and nothing can be done again."""
        self.stood_ahead.append(stood)
        self.stood_ahead = self.stood_ahead[-MOST_TAKEN_BACK:]
        self.stood_behind = []

    def take_back(self):
        self.stood_behind.append(self.standing())
        self.stand_as(self.stood_ahead.pop())

    def do_again(self):
        self.stood_ahead.append(self.standing())
        self.stand_as(self.stood_behind.pop())
