"""Point 1: os_start."""

import unittest

from helper import (
    BORN, HIGHEST, JOIN_ALL, OPEN, SHUT, age, all_that_is_kept, asked, go_by, join, last, members, name, start, whose,
)


class Names(unittest.TestCase):
    def test_from_two_to_twelve(self):
        for names in range(2, 13):
            self.assertEqual(last([start(names, 5, 9)]), [0])

    def test_too_few_or_too_many(self):
        for names in (0, 1, 13, 14, HIGHEST):
            self.assertEqual(last([start(names, 5, 9)]), [-22])

    def test_names_come_round_by_that_many(self):
        for names in range(2, 13):
            self.assertEqual(
                asked([start(names, 5, 9), name(names - 1), name(names), name(names + 1)]),
                [[0], [names - 1], [0], [1]],
            )


class Ages(unittest.TestCase):
    def test_the_highest_is_not_less_than_the_lowest(self):
        self.assertEqual(last([start(2, 5, 4)]), [-22])
        self.assertEqual(last([start(2, 1, 0)]), [-22])
        self.assertEqual(last([start(2, HIGHEST, 60)]), [-22])

    def test_both_alike(self):
        for both in (0, 5, 60):
            self.assertEqual(last([start(2, both, both)]), [0])

    def test_up_to_sixty(self):
        self.assertEqual(last([start(2, 0, 60)]), [0])
        self.assertEqual(last([start(2, 0, 61)]), [-22])
        self.assertEqual(last([start(2, 61, 61)]), [-22])
        self.assertEqual(last([start(2, 0, HIGHEST)]), [-22])
        self.assertEqual(last([start(2, HIGHEST, HIGHEST)]), [-22])


class Anew(unittest.TestCase):
    lived = [
        start(3, 1, 4), BORN, BORN, go_by(2), OPEN, join(1), SHUT, BORN, go_by(1), OPEN, join(0), BORN, go_by(1),
    ]

    def test_begins_with_nothing(self):
        self.assertEqual(
            asked([start(2, 0, 60), age(0), whose(0), members(0), SHUT, JOIN_ALL, join(0), go_by(1), BORN, OPEN]),
            [[0], [-2], [-2], [-2], [-6], [-16], [-2], [1], [0], [0, 0]],
        )

    def test_again_all_is_new(self):
        again = start(5, 7, 9)
        self.assertEqual(asked(self.lived + [again])[-1], [0])
        self.assertEqual(all_that_is_kept(self.lived + [again]), all_that_is_kept([again]))

    def test_again_no_year_has_gone_by(self):
        self.assertEqual(last([start(2, 0, 9), go_by(300), start(2, 0, 9), go_by(300)]), [300])

    def test_refused_again_all_stays(self):
        kept = all_that_is_kept(self.lived)
        for refused in (start(1, 1, 4), start(13, 1, 4), start(3, 4, 1), start(3, 1, 61), start(HIGHEST, 0, 0)):
            self.assertEqual(last(self.lived + [refused]), [-22])
            self.assertEqual(all_that_is_kept(self.lived + [refused]), kept)

    def test_refused_ahead_of_the_first(self):
        first = start(3, 1, 4)
        refused = [start(1, 0, 9), start(13, 0, 9), start(5, 9, 0), start(5, 0, 61)]
        self.assertEqual(asked(refused + [first]), [[-22]] * 4 + [[0]])
        self.assertEqual(all_that_is_kept(refused + [first]), all_that_is_kept([first]))


if __name__ == "__main__":
    unittest.main()
