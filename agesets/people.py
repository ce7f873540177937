"""The people and the sets of one object: what is kept of them, and what follows from it."""

NO_SET = -1


class Roll:
    """All that one object keeps. A person and a set are their numbers."""

    def __init__(self):
        # The document asks nothing ahead of an os_start; these only make the object whole till then.
        self.begin(1, 0, 0)

    def begin(self, names, youngest, oldest):
        """Year 0, with no people and no sets."""
        self.names = names
        self.youngest = youngest
        self.oldest = oldest
        self.year = 0
        self.birth_years = []
        self.set_of = []
        self.set_count = 0
        self.one_is_open = False

    def is_person(self, person):
        return person < len(self.birth_years)

    def is_set(self, number):
        return number < self.set_count

    def is_in_a_set(self, person):
        return self.set_of[person] != NO_SET

    def age_of(self, person):
        return self.year - self.birth_years[person]

    def is_of_age(self, person):
        return self.youngest <= self.age_of(person) <= self.oldest

    def may_join(self, person):
        """Whether one may join as a set is opened: an open one is not asked for."""
        return not self.is_in_a_set(person) and self.is_of_age(person)

    def name_of(self, number):
        return number % self.names

    def last_set(self):
        """The set that is open, if one is: only the last one can be."""
        return self.set_count - 1

    def are_in(self, number):
        """For each person in order, whether they are in this set."""
        return [joined == number for joined in self.set_of]

    def add_person(self):
        self.birth_years.append(self.year)
        self.set_of.append(NO_SET)

    def open_next(self):
        self.set_count += 1
        self.one_is_open = True

    def put_in_open(self, person):
        self.set_of[person] = self.last_set()
