"""is_servable, best_set, value_of, marginal_value and loss_without."""

import unittest

from tests.session import (
    BIGGEST, NETWORKS, add_user, best, best_set, create, is_servable, list_users, loss_without, marginal_value,
    network, remove_user, set_value, told, told_on, value_of,
)

THREE = [(5, 3, 10), (3, 1, 6), (4, 2, 9)]
LISTED = [3, 5, 3, 10, 3, 1, 6, 4, 2, 9]
BEHIND_THREE = (8, 9, 15, 16, 255, 256, 2 ** 31, 2 ** 32 - 8, BIGGEST)


class IsServableTest(unittest.TestCase):
    def test_each_set_of_the_example(self):
        for user_set, load in enumerate((0, 1, 1, 1, 1, 2, 2, 2)):
            for count in range(10):
                with self.subTest(user_set=user_set, count=count):
                    self.assertEqual(
                        told_on(network(5, THREE), is_servable(user_set, count)), [[int(load <= count)]],
                    )

    def test_any_number_of_cascades(self):
        for count in (8, 9, 10, 60, 255, 2 ** 31, BIGGEST):
            with self.subTest(count=count):
                self.assertEqual(told_on(network(12, [(12, 0, 1)] * 8), is_servable(255, count)), [[1]])

    def test_eight_users_on_each_grade(self):
        for grade in range(1, 13):
            with self.subTest(grade=grade):
                self.assertEqual(
                    told_on(network(12, [(grade, grade - 1, 1)] * 8), is_servable(255, 8), is_servable(255, 7)),
                    [[1], [0]],
                )

    def test_sets_with_users_that_do_not_exist(self):
        for user_set in BEHIND_THREE:
            for count in (0, 1, 8, 9, BIGGEST):
                with self.subTest(user_set=user_set, count=count):
                    self.assertEqual(
                        told_on(network(5, THREE), is_servable(user_set, count), list_users()), [[-2], LISTED],
                    )

    def test_no_users_at_all(self):
        self.assertEqual(
            told([create(5), is_servable(0, 0), is_servable(0, BIGGEST), is_servable(1, 1)]), [[0], [1], [1], [-2]],
        )

    def test_the_last_set_of_eight_users(self):
        self.assertEqual(
            told_on(network(1, [(1, 0, 1)] * 8), is_servable(255, 8), is_servable(256, 8)), [[1], [-2]],
        )


class ValueOfTest(unittest.TestCase):
    def test_each_set_of_the_example(self):
        for user_set, value in enumerate((0, 10, 6, 16, 9, 19, 15, 25)):
            with self.subTest(user_set=user_set):
                self.assertEqual(told_on(network(5, THREE), value_of(user_set)), [[value]])

    def test_eight_users(self):
        users = [(1, 0, value) for value in (1, 2, 4, 8, 16, 32, 64, 100)]
        for user_set, value in ((0, 0), (1, 1), (127, 127), (128, 100), (255, 227), (0b10000001, 101), (256, -2)):
            with self.subTest(user_set=user_set):
                self.assertEqual(told_on(network(1, users), value_of(user_set)), [[value]])
        self.assertEqual(told_on(network(1, [(1, 0, 100)] * 8), value_of(255)), [[800]])

    def test_sets_with_users_that_do_not_exist(self):
        for user_set in BEHIND_THREE:
            with self.subTest(user_set=user_set):
                self.assertEqual(told_on(network(5, THREE), value_of(user_set), list_users()), [[-2], LISTED])

    def test_no_users_at_all(self):
        self.assertEqual(told([create(5), value_of(0), value_of(1), value_of(BIGGEST)]), [[0], [0], [-2], [-2]])

    def test_values_and_users_that_change(self):
        self.assertEqual(
            told_on(network(5, THREE), set_value(1, 50), value_of(3), remove_user(0), value_of(3), value_of(4)),
            [[6], [60], [2], [59], [-2]],
        )


class BestSetTest(unittest.TestCase):
    def test_the_example(self):
        self.assertEqual(told_on(network(5, THREE), *map(best_set, range(4))), [[0, 0], [16, 3], [25, 7], [25, 7]])

    def test_the_range(self):
        for count in (0, 8):
            with self.subTest(count=count):
                self.assertEqual(told_on(network(1, [(1, 0, 3)] * 8), best_set(count)), [[3 * count, 2 ** count - 1]])
        for count in (9, 10, 60, 256, BIGGEST):
            with self.subTest(count=count):
                self.assertEqual(told_on(network(5, THREE), best_set(count), list_users()), [[-22], LISTED])

    def test_no_users_at_all(self):
        self.assertEqual(told([create(12)] + [best_set(count) for count in range(10)]), [[0]] + [[0, 0]] * 9 + [[-22]])

    def test_without_cascades(self):
        for grade_count, users in NETWORKS:
            with self.subTest(grade_count=grade_count, users=users):
                self.assertEqual(told_on(network(grade_count, users), best_set(0)), [[0, 0]])

    def test_ties_go_to_the_smallest_bit_mask(self):
        self.assertEqual(told_on(network(3, [(3, 0, 5), (3, 0, 5), (2, 1, 0)]), *map(best_set, range(4))),
                         [[0, 0], [5, 1], [10, 3], [10, 3]])
        self.assertEqual(told_on(network(3, [(3, 2, 2), (2, 0, 3), (3, 0, 5)]), best_set(1)), [[5, 3]])
        self.assertEqual(told_on(network(3, [(3, 0, 5), (3, 2, 2), (2, 0, 3)]), best_set(1)), [[5, 1]])
        self.assertEqual(told_on(network(3, [(3, 2, 2), (3, 0, 5), (2, 0, 3)]), best_set(1)), [[5, 2]])

    def test_users_without_value_are_left_out(self):
        self.assertEqual(told_on(network(5, [(5, 4, 0), (3, 2, 0), (2, 1, 4)]), best_set(8)), [[4, 4]])
        self.assertEqual(told_on(network(1, [(1, 0, 0)] * 8), best_set(8)), [[0, 0]])

    def test_one_dear_user_or_several_cheap_ones(self):
        cheap = [(grade, grade - 1, 10) for grade in range(1, 8)]
        self.assertEqual(told_on(network(12, cheap + [(7, 0, 71)]), best_set(1), best_set(2)), [[71, 128], [141, 255]])
        self.assertEqual(told_on(network(12, cheap + [(7, 0, 70)]), best_set(1)), [[70, 127]])
        self.assertEqual(told_on(network(12, cheap + [(7, 0, 69)]), best_set(1)), [[70, 127]])
        self.assertEqual(told_on(network(12, cheap + [(8, 6, 11)]), best_set(1)), [[71, 191]])

    def test_users_that_change(self):
        self.assertEqual(
            told_on(network(5, THREE), set_value(2, 17), best_set(1), remove_user(0), best_set(1),
                    add_user(5, 4, 1), best_set(1), create(5), best_set(1)),
            [[9], [17, 4], [2], [17, 2], [2], [18, 6], [0], [0, 0]],
        )


class MarginalValueTest(unittest.TestCase):
    def test_the_example(self):
        self.assertEqual(told_on(network(5, THREE), *map(marginal_value, range(1, 9))), [[16], [9]] + [[0]] * 6)

    def test_every_number_of_cascades(self):
        self.assertEqual(
            told_on(network(1, [(1, 0, value) for value in (3, 100, 0, 7, 50, 7, 20, 1)]),
                    *map(marginal_value, range(1, 9))),
            [[100], [50], [20], [7], [7], [3], [1], [0]],
        )

    def test_outside_the_range(self):
        for count in (0, 9, 10, 256, BIGGEST):
            with self.subTest(count=count):
                self.assertEqual(told_on(network(5, THREE), marginal_value(count), list_users()), [[-22], LISTED])
                self.assertEqual(told([create(1), marginal_value(count)]), [[0], [-22]])

    def test_no_users_at_all(self):
        self.assertEqual(told_on([create(12)], *map(marginal_value, range(1, 9))), [[0]] * 8)

    def test_the_difference_of_two_best_sets(self):
        for grade_count, users in NETWORKS:
            for count in range(1, 9):
                with self.subTest(grade_count=grade_count, users=users, count=count):
                    self.assertEqual(
                        told_on(network(grade_count, users), marginal_value(count)),
                        [[best(users, count)[0] - best(users, count - 1)[0]]],
                    )


class LossWithoutTest(unittest.TestCase):
    def test_the_example(self):
        for count, losses in enumerate(([0, 0, 0], [7, 6, 0], [10, 6, 9], [10, 6, 9])):
            for user, loss in enumerate(losses):
                with self.subTest(user=user, count=count):
                    self.assertEqual(told_on(network(5, THREE), loss_without(user, count)), [[loss]])

    def test_the_range(self):
        users = [(1, 0, value) for value in (3, 100, 0, 7, 50, 7, 20, 1)]
        for user in range(8):
            self.assertEqual(
                told_on(network(1, users), loss_without(user, 0), loss_without(user, 8), loss_without(user, 9)),
                [[0], [users[user][2]], [-22]],
            )

    def test_no_such_user_comes_ahead_of_the_range(self):
        for user in (3, 4, 8, BIGGEST):
            for count in (0, 1, 8, 9, BIGGEST):
                with self.subTest(user=user, count=count):
                    self.assertEqual(
                        told_on(network(5, THREE), loss_without(user, count), list_users()), [[-2], LISTED],
                    )

    def test_outside_the_range(self):
        for user in range(3):
            for count in (9, 10, 256, BIGGEST):
                with self.subTest(user=user, count=count):
                    self.assertEqual(
                        told_on(network(5, THREE), loss_without(user, count), list_users()), [[-22], LISTED],
                    )

    def test_no_users_at_all(self):
        self.assertEqual(told([create(5), loss_without(0, 1), loss_without(0, 9)]), [[0], [-2], [-2]])

    def test_the_only_user(self):
        self.assertEqual(
            told_on(network(5, [(5, 0, 33)]), loss_without(0, 1), loss_without(0, 0), loss_without(1, 1)),
            [[33], [0], [-2]],
        )

    def test_the_state_does_not_change(self):
        for user in range(3):
            with self.subTest(user=user):
                self.assertEqual(
                    told_on(network(5, THREE), loss_without(user, 1), list_users(), best_set(1), best_set(2)),
                    [[(7, 6, 0)[user]], LISTED, [16, 3], [25, 7]],
                )

    def test_as_if_the_user_were_removed(self):
        for grade_count, users in NETWORKS:
            build = network(grade_count, users)
            for user in range(len(users)):
                for count in (0, 1, 2, 3, 8):
                    with self.subTest(grade_count=grade_count, users=users, user=user, count=count):
                        loss, before, left, behind = told_on(
                            build, loss_without(user, count), best_set(count), remove_user(user), best_set(count),
                        )
                        self.assertEqual(loss, [before[0] - behind[0]])
                        self.assertGreaterEqual(loss[0], 0)


if __name__ == "__main__":
    unittest.main()
