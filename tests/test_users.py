"""create, add_user, remove_user, list_users and set_value."""

import unittest

from tests.session import (
    BIGGEST, add_user, create, list_users, load, network, remove_user, set_value, told, told_on,
)

EIGHT = [(5, 3, 10), (3, 1, 6), (4, 2, 9), (1, 0, 0), (5, 0, 100), (2, 1, 7), (5, 4, 1), (3, 0, 2)]
THREE = EIGHT[:3]


def listed(users):
    return [len(users)] + [number for user in users for number in user]


class CreateTest(unittest.TestCase):
    def test_every_grade_count_in_the_range(self):
        for grade_count in range(1, 13):
            with self.subTest(grade_count=grade_count):
                self.assertEqual(
                    told([create(grade_count), list_users(), load(grade_count), load(grade_count + 1)]),
                    [[0], [0], [0], [-22]],
                )

    def test_grade_counts_outside_the_range(self):
        for grade_count in (0, 13, 14, 256, 65536, BIGGEST - 1, BIGGEST):
            with self.subTest(grade_count=grade_count):
                self.assertEqual(told([create(grade_count), list_users()]), [[-22], [-11]])

    def test_create_replaces_the_network(self):
        self.assertEqual(
            told_on(network(5, EIGHT), create(2), list_users(), load(2), load(3), add_user(2, 0, 4)),
            [[0], [0], [0], [-22], [0]],
        )

    def test_create_with_the_same_grades_replaces_too(self):
        self.assertEqual(told_on(network(5, THREE), create(5), list_users()), [[0], [0]])

    def test_a_refused_create_leaves_the_network(self):
        for grade_count in (0, 13, BIGGEST):
            with self.subTest(grade_count=grade_count):
                self.assertEqual(
                    told_on(network(5, THREE), create(grade_count), list_users(), load(5), load(6)),
                    [[-22], listed(THREE), [1], [-22]],
                )


class AddUserTest(unittest.TestCase):
    def test_numbers_go_up_from_0(self):
        self.assertEqual(told(network(5, EIGHT)), [[0]] + [[number] for number in range(8)])

    def test_a_ninth_user(self):
        self.assertEqual(
            told_on(network(5, EIGHT), add_user(2, 1, 3), list_users()),
            [[-28], listed(EIGHT)],
        )

    def test_a_place_that_is_free_again(self):
        self.assertEqual(
            told_on(network(5, EIGHT), remove_user(0), add_user(2, 1, 3), add_user(2, 1, 3), list_users()),
            [[7], [7], [-28], listed(EIGHT[1:] + [(2, 1, 3)])],
        )

    def test_every_pair_of_grades(self):
        for grade_count in (1, 5, 12):
            for supply_grade in range(grade_count + 3):
                for return_grade in range(grade_count + 3):
                    fits = return_grade < supply_grade <= grade_count
                    with self.subTest(grades=(grade_count, supply_grade, return_grade)):
                        user = (supply_grade, return_grade, 1)
                        self.assertEqual(
                            told([create(grade_count), add_user(*user), list_users()]),
                            [[0], [0], listed([user])] if fits else [[0], [-22], [0]],
                        )

    def test_values(self):
        for value, answer in ((0, 0), (1, 0), (99, 0), (100, 0), (101, -22), (BIGGEST, -22)):
            with self.subTest(value=value):
                self.assertEqual(told_on([create(5)], add_user(5, 3, value)), [[answer]])

    def test_the_biggest_numbers(self):
        for user in ((BIGGEST, 0, 1), (BIGGEST, BIGGEST, 1), (BIGGEST, BIGGEST - 1, 1), (5, BIGGEST, 1),
                     (BIGGEST, BIGGEST, BIGGEST), (5, 3, BIGGEST)):
            with self.subTest(user=user):
                self.assertEqual(told_on(network(5, THREE), add_user(*user), list_users()), [[-22], listed(THREE)])

    def test_out_of_range_comes_ahead_of_a_ninth_user(self):
        for user in ((3, 3, 1), (2, 3, 1), (6, 3, 1), (5, 3, 101), (0, 0, 0), (BIGGEST, BIGGEST, BIGGEST)):
            with self.subTest(user=user):
                self.assertEqual(told_on(network(5, EIGHT), add_user(*user), list_users()), [[-22], listed(EIGHT)])

    def test_equal_users_are_users_of_their_own(self):
        self.assertEqual(
            told([create(5)] + [add_user(4, 2, 9)] * 3 + [list_users()]),
            [[0], [0], [1], [2], listed([(4, 2, 9)] * 3)],
        )


class RemoveUserTest(unittest.TestCase):
    def test_each_user(self):
        for user in range(8):
            with self.subTest(user=user):
                self.assertEqual(
                    told_on(network(5, EIGHT), remove_user(user), list_users()),
                    [[7], listed(EIGHT[:user] + EIGHT[user + 1:])],
                )

    def test_numbers_behind_it_go_down(self):
        self.assertEqual(
            told_on(network(5, THREE), remove_user(1), set_value(1, 50), set_value(2, 50), list_users()),
            [[2], [9], [-2], listed([(5, 3, 10), (4, 2, 50)])],
        )

    def test_until_none_is_left(self):
        self.assertEqual(
            told_on(network(5, THREE), remove_user(2), remove_user(0), remove_user(0), remove_user(0), list_users()),
            [[2], [1], [0], [-2], [0]],
        )

    def test_no_such_user(self):
        for user in (3, 4, 8, BIGGEST):
            with self.subTest(user=user):
                self.assertEqual(told_on(network(5, THREE), remove_user(user), list_users()), [[-2], listed(THREE)])

    def test_no_users_at_all(self):
        for user in (0, 1, BIGGEST):
            with self.subTest(user=user):
                self.assertEqual(told([create(5), remove_user(user)]), [[0], [-2]])


class ListUsersTest(unittest.TestCase):
    def test_every_number_of_users(self):
        for count in range(9):
            with self.subTest(count=count):
                self.assertEqual(told_on(network(5, EIGHT[:count]), list_users()), [listed(EIGHT[:count])])


class SetValueTest(unittest.TestCase):
    def test_each_user(self):
        for user in range(8):
            with self.subTest(user=user):
                changed = list(EIGHT)
                changed[user] = EIGHT[user][:2] + (55,)
                self.assertEqual(
                    told_on(network(5, EIGHT), set_value(user, 55), list_users(), set_value(user, 56)),
                    [[EIGHT[user][2]], listed(changed), [55]],
                )

    def test_values(self):
        for value in (0, 1, 99, 100):
            with self.subTest(value=value):
                self.assertEqual(
                    told_on(network(5, THREE), set_value(0, value), list_users()),
                    [[10], listed([(5, 3, value)] + THREE[1:])],
                )

    def test_values_outside_the_range(self):
        for value in (101, 102, BIGGEST):
            with self.subTest(value=value):
                self.assertEqual(
                    told_on(network(5, THREE), set_value(2, value), list_users()),
                    [[-22], listed(THREE)],
                )

    def test_no_such_user_comes_ahead_of_the_value(self):
        for user in (3, 4, BIGGEST):
            for value in (0, 100, 101, BIGGEST):
                with self.subTest(user=user, value=value):
                    self.assertEqual(
                        told_on(network(5, THREE), set_value(user, value), list_users()),
                        [[-2], listed(THREE)],
                    )

    def test_no_users_at_all(self):
        self.assertEqual(told([create(5), set_value(0, 1), set_value(0, 101)]), [[0], [-2], [-2]])

    def test_an_equal_user_keeps_its_value(self):
        self.assertEqual(
            told_on(network(5, [(4, 2, 9)] * 2), set_value(1, 3), list_users()),
            [[9], listed([(4, 2, 9), (4, 2, 3)])],
        )


if __name__ == "__main__":
    unittest.main()
