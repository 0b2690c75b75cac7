"""min_cascades and assign_cascades."""

import unittest

from tests.session import (
    BIGGEST, assign_cascades, cascades_in, create, list_users, min_cascades, network, remove_user, told, told_on,
)

THREE = [(5, 3, 10), (3, 1, 6), (4, 2, 9)]
EIGHT = THREE + [(1, 0, 0), (5, 0, 100), (2, 1, 7), (5, 4, 1), (3, 0, 2)]


def written(cascades):
    """An assignment as the program answers it."""
    return [len(cascades)] + [number for cascade in cascades for number in [len(cascade)] + cascade]


class AssignCascadesTest(unittest.TestCase):
    def check(self, grade_count, users, user_set, cascades):
        self.assertEqual(told_on(network(grade_count, users), assign_cascades(user_set)), [written(cascades)])

    def test_the_example(self):
        self.check(5, THREE, 7, [[0, 1], [2]])

    def test_each_set_of_the_example(self):
        for user_set, cascades in enumerate(
            ([], [[0]], [[1]], [[0, 1]], [[2]], [[0], [2]], [[2], [1]], [[0, 1], [2]]),
        ):
            with self.subTest(user_set=user_set):
                self.check(5, THREE, user_set, cascades)

    def test_equal_supply_grades_go_by_number(self):
        self.check(5, [(5, 4, 1), (5, 0, 1), (4, 0, 1), (5, 4, 1)], 15, [[0, 2], [1], [3]])
        self.check(5, [(5, 0, 1), (5, 4, 1), (4, 0, 1)], 7, [[0], [1, 2]])
        self.check(9, [(4, 3, 1), (4, 1, 1), (9, 4, 1), (8, 4, 1)], 15, [[2, 0], [3, 1]])
        self.check(3, [(3, 0, 1)] * 8, 255, [[user] for user in range(8)])

    def test_neither_return_grade_nor_value_breaks_a_tie(self):
        self.check(5, [(5, 1, 1), (5, 4, 99), (4, 1, 3), (1, 0, 0)], 15, [[0, 3], [1, 2]])
        self.check(5, [(5, 4, 99), (5, 1, 1), (4, 1, 3), (1, 0, 0)], 15, [[0, 2, 3], [1]])

    def test_the_first_cascade_that_can_take_the_user(self):
        self.check(9, [(9, 5, 1), (8, 3, 1), (7, 3, 1), (3, 1, 1)], 15, [[0, 3], [1], [2]])
        self.check(9, [(9, 1, 1), (8, 3, 1), (7, 3, 1), (3, 0, 1)], 15, [[0], [1, 3], [2]])
        self.check(9, [(9, 1, 1), (8, 2, 1), (7, 3, 1), (3, 0, 1)], 15, [[0], [1], [2, 3]])
        self.check(9, [(9, 1, 1), (8, 2, 1), (7, 2, 1), (3, 0, 1)], 15, [[0], [1], [2], [3]])

    def test_only_the_last_user_of_a_cascade_counts(self):
        self.check(9, [(9, 7, 1), (7, 2, 1), (5, 0, 1), (2, 0, 1)], 15, [[0, 1, 3], [2]])

    def test_a_user_follows_at_the_return_grade_and_below(self):
        self.check(5, [(5, 3, 1), (3, 0, 1)], 3, [[0, 1]])
        self.check(5, [(5, 3, 1), (2, 0, 1)], 3, [[0, 1]])
        self.check(5, [(5, 3, 1), (4, 0, 1)], 3, [[0], [1]])

    def test_one_cascade_of_eight(self):
        users = [(grade, grade - 1, 1) for grade in (3, 8, 1, 6, 2, 5, 4, 7)]
        self.check(12, users, 255, [[1, 7, 3, 5, 6, 0, 4, 2]])

    def test_the_last_set_and_the_one_behind_it(self):
        for count in range(9):
            with self.subTest(count=count):
                last, behind = told_on(
                    network(5, EIGHT[:count]), assign_cascades(2 ** count - 1), assign_cascades(2 ** count),
                )
                self.assertEqual(sorted(sum(cascades_in(last), [])), list(range(count)))
                self.assertEqual(behind, [-2])

    def test_sets_with_users_that_do_not_exist(self):
        for user_set in (8, 9, 15, 16, 255, 256, 2 ** 31, 2 ** 32 - 8, BIGGEST):
            with self.subTest(user_set=user_set):
                self.assertEqual(
                    told_on(network(5, THREE), assign_cascades(user_set), list_users()),
                    [[-2], [3, 5, 3, 10, 3, 1, 6, 4, 2, 9]],
                )

    def test_no_users_at_all(self):
        self.assertEqual(
            told([create(5), assign_cascades(0), assign_cascades(1), min_cascades()]), [[0], [0], [-2], [0]],
        )

    def test_a_removed_user(self):
        self.assertEqual(
            told_on(network(5, THREE), remove_user(0), assign_cascades(3), assign_cascades(4), assign_cascades(7)),
            [[2], written([[1], [0]]), [-2], [-2]],
        )


class MinCascadesTest(unittest.TestCase):
    def test_the_example(self):
        self.assertEqual(told_on(network(5, THREE), min_cascades()), [[2]])

    def test_every_number_of_cascades(self):
        for count in range(9):
            users = [(5, 4, 1)] * count + [(4, 3, 1)] * (8 - count)
            with self.subTest(count=count):
                self.assertEqual(told_on(network(5, users), min_cascades()), [[max(count, 8 - count)]])

    def test_one_cascade_of_eight(self):
        users = [(grade, grade - 1, 1) for grade in (3, 8, 1, 6, 2, 5, 4, 7)]
        self.assertEqual(told_on(network(12, users), min_cascades()), [[1]])

    def test_after_a_removal(self):
        self.assertEqual(
            told_on(network(5, THREE), remove_user(2), min_cascades(), remove_user(0), min_cascades()),
            [[2], [1], [1], [1]],
        )


if __name__ == "__main__":
    unittest.main()
