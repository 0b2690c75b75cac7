"""can_follow, peak_users and summary."""

import itertools
import unittest

from tests.session import (
    BIGGEST, NETWORKS, add_user, assign_cascades, can_follow, cascades_in, create, list_users, network, peak_grade,
    peak_load, peak_users, remove_user, summary, told, told_each, told_on,
)

THREE = [(5, 3, 10), (3, 1, 6), (4, 2, 9)]
LISTED = [3, 5, 3, 10, 3, 1, 6, 4, 2, 9]


class CanFollowTest(unittest.TestCase):
    def test_each_pair_of_the_example(self):
        for user, following in itertools.product(range(3), repeat=2):
            with self.subTest(user=user, following=following):
                self.assertEqual(
                    told_on(network(5, THREE), can_follow(user, following)), [[int((user, following) == (0, 1))]],
                )

    def test_every_pair_of_grades(self):
        kinds = [(top, bottom, 1) for top in (1, 2, 3, 4, 5) for bottom in range(top)]
        for leading, following in itertools.product(kinds, repeat=2):
            with self.subTest(leading=leading, following=following):
                self.assertEqual(
                    told_on(network(5, [leading, following]), can_follow(0, 1), can_follow(1, 0)),
                    [[int(following[0] <= leading[1])], [int(leading[0] <= following[1])]],
                )

    def test_no_user_follows_itself(self):
        for grade_count, users in NETWORKS:
            for user in range(len(users)):
                self.assertEqual(told_on(network(grade_count, users), can_follow(user, user)), [[0]])

    def test_one_cascade_of_eight(self):
        users = [(8 - user, 7 - user, 1) for user in range(8)]
        pairs = list(itertools.product(range(8), repeat=2))
        self.assertEqual(
            told_each(network(12, users), [can_follow(user, following) for user, following in pairs]),
            [[int(user < following)] for user, following in pairs],
        )

    def test_no_such_user(self):
        for user, other in itertools.product((3, 4, 8, 255, BIGGEST), (0, 1, 2, 3, BIGGEST)):
            with self.subTest(user=user, other=other):
                self.assertEqual(
                    told_on(network(5, THREE), can_follow(user, other), can_follow(other, user), list_users()),
                    [[-2], [-2], LISTED],
                )

    def test_no_users_at_all(self):
        self.assertEqual(told([create(5), can_follow(0, 0), can_follow(0, 1)]), [[0], [-2], [-2]])

    def test_a_removed_user(self):
        self.assertEqual(
            told_on(network(5, THREE), remove_user(2), can_follow(0, 1), can_follow(0, 2), can_follow(2, 0),
                    remove_user(0), can_follow(0, 0), can_follow(0, 1)),
            [[2], [1], [-2], [-2], [1], [0], [-2]],
        )


class PeakUsersTest(unittest.TestCase):
    def test_the_example(self):
        self.assertEqual(told_on(network(5, THREE), peak_users()), [[2, 1, 2]])

    def test_no_users_at_all(self):
        for grade_count in (1, 12):
            self.assertEqual(told([create(grade_count), peak_users()]), [[0], [0]])

    def test_every_number_of_users(self):
        for count in range(1, 9):
            for grade_count in (1, 12):
                with self.subTest(count=count, grade_count=grade_count):
                    users = [(grade_count, grade_count - 1, 1)] * count
                    self.assertEqual(
                        told_on(network(grade_count, users), peak_users()), [[count] + list(range(count))],
                    )

    def test_ascending_whatever_the_grades(self):
        users = [(4, 3, 1), (9, 3, 1), (12, 4, 1), (5, 0, 1), (4, 2, 1), (3, 0, 1)]
        self.assertEqual(told_on(network(12, users), peak_grade(), peak_users()), [[4], [4, 0, 1, 3, 4]])

    def test_the_lowest_of_equal_grades(self):
        users = [(12, 11, 1), (5, 4, 1), (9, 3, 1), (12, 10, 1)]
        self.assertEqual(told_on(network(12, users), peak_grade(), peak_users()), [[5], [2, 1, 2]])

    def test_users_that_end_at_the_peak_grade(self):
        users = [(8, 5, 1), (6, 2, 1), (5, 0, 1), (7, 6, 1), (12, 5, 1)]
        self.assertEqual(told_on(network(12, users), peak_grade(), peak_users()), [[6], [3, 0, 1, 4]])

    def test_each_network(self):
        for grade_count, users in NETWORKS:
            with self.subTest(grade_count=grade_count, users=users):
                load, grade, answer = told_on(network(grade_count, users), peak_load(), peak_grade(), peak_users())
                self.assertEqual(
                    answer[1:], [user for user, (top, bottom, value) in enumerate(users) if bottom < grade[0] <= top],
                )
                self.assertEqual(answer[0], len(answer) - 1)
                self.assertEqual(answer[0], load[0])

    def test_no_two_of_them_are_in_the_same_cascade(self):
        for grade_count, users in NETWORKS:
            with self.subTest(grade_count=grade_count, users=users):
                build = network(grade_count, users)
                answer, assigned = told_on(build, peak_users(), assign_cascades(2 ** len(users) - 1))
                for cascade in cascades_in(assigned):
                    self.assertLessEqual(len(set(cascade) & set(answer[1:])), 1)
                pairs = itertools.permutations(answer[1:], 2)
                for result in told_each(build, [can_follow(user, other) for user, other in pairs]):
                    self.assertEqual(result, [0])

    def test_a_removed_user(self):
        self.assertEqual(
            told_on(network(5, THREE), remove_user(1), peak_users(), remove_user(0), peak_users(), remove_user(0),
                    peak_users()),
            [[2], [2, 0, 1], [1], [1, 0], [0], [0]],
        )


class SummaryTest(unittest.TestCase):
    def test_the_example(self):
        self.assertEqual(told_on(network(5, THREE), summary()), [[5, 3]])

    def test_every_number_of_grades_and_users(self):
        for grade_count, count in itertools.product(range(1, 13), range(9)):
            with self.subTest(grade_count=grade_count, count=count):
                self.assertEqual(told_on(network(grade_count, [(1, 0, 1)] * count), summary()), [[grade_count, count]])

    def test_users_that_come_and_go(self):
        self.assertEqual(
            told_on(network(5, THREE), remove_user(0), summary(), add_user(5, 0, 1), summary(), add_user(5, 5, 1),
                    summary(), create(13), summary(), create(12), summary()),
            [[2], [5, 2], [2], [5, 3], [-22], [5, 3], [-22], [5, 3], [0], [12, 0]],
        )

    def test_without_a_network(self):
        self.assertEqual(told([summary(), create(0), summary(), create(1), summary()]),
                         [[-11], [-22], [-11], [0], [1, 0]])


if __name__ == "__main__":
    unittest.main()
