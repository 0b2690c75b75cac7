"""dual_bound and proves_optimality."""

import unittest

from heatcascades.supply import answers
from tests.session import (
    BIGGEST, create, dual_bound, list_users, network, proves_optimality, remove_user, set_value, told, told_on,
)

THREE = [(5, 3, 10), (3, 1, 6), (4, 2, 9)]
LISTED = [3, 5, 3, 10, 3, 1, 6, 4, 2, 9]
BOTH = (dual_bound, proves_optimality)


class DualBoundTest(unittest.TestCase):
    def check(self, grade_count, users, count, prices, bound):
        with self.subTest(count=count, prices=prices):
            self.assertEqual(told_on(network(grade_count, users), dual_bound(count, prices)), [[bound]])

    def test_the_example(self):
        self.check(5, THREE, 1, [0, 6, 0, 10, 0], 16)

    def test_each_number_of_cascades(self):
        for count in range(9):
            self.check(5, THREE, count, [0, 6, 0, 10, 0], 16 * count)
            self.check(5, THREE, count, [1, 2, 3, 0, 4], 10 * count + (10 - 4) + (6 - 5) + (9 - 3))

    def test_without_prices_every_value_counts_whole(self):
        for count in (0, 1, 8):
            self.check(5, THREE, count, [0] * 5, 25)

    def test_the_price_of_grade_1_is_first(self):
        for grade in range(1, 6):
            prices = [0] * 5
            prices[grade - 1] = 4
            paying = sum(bottom < grade <= top for top, bottom, value in THREE)
            self.check(5, THREE, 0, prices, 25 - 4 * paying)

    def test_a_user_pays_for_its_supply_grade_and_not_for_its_return_grade(self):
        for top in range(1, 13):
            for bottom in range(top):
                prices = list(range(1, 13))
                cost = sum(range(bottom + 1, top + 1))
                self.check(12, [(top, bottom, 100)], 0, prices, max(0, 100 - cost))
                self.check(12, [(top, bottom, 100)], 3, prices, 234 + max(0, 100 - cost))

    def test_a_user_that_costs_its_value_or_more_adds_nothing(self):
        for price, bound in ((9, 9 + 1 + 2), (10, 10 + 1), (11, 11), (12, 12)):
            self.check(1, [(1, 0, 10), (1, 0, 11)], 1, [price], bound)

    def test_the_highest_prices(self):
        self.check(5, THREE, 8, [1000] * 5, 40000)
        self.check(12, [(12, 0, 100)] * 8, 8, [1000] * 12, 96000)
        self.check(12, [(12, 11, 100)] * 8, 8, [1000] * 11 + [0], 88800)
        self.check(1, [(1, 0, 100)] * 8, 0, [0], 800)

    def test_no_users_at_all(self):
        self.check(1, [], 3, [7], 21)
        self.check(12, [], 8, [1000] * 12, 96000)
        self.check(12, [], 0, [1000] * 12, 0)

    def test_users_that_change(self):
        prices = [0, 6, 0, 10, 0]
        self.assertEqual(
            told_on(network(5, THREE), set_value(2, 50), dual_bound(1, prices), remove_user(2), dual_bound(1, prices)),
            [[9], [56], [2], [16]],
        )


class ProvesOptimalityTest(unittest.TestCase):
    def check(self, grade_count, users, count, prices, result):
        with self.subTest(count=count, prices=prices):
            self.assertEqual(told_on(network(grade_count, users), proves_optimality(count, prices)), [[result]])

    def test_the_example(self):
        self.check(5, THREE, 1, [0, 6, 0, 10, 0], 1)
        self.check(5, THREE, 2, [0, 6, 0, 10, 0], 0)

    def test_one_more_or_less_on_one_grade(self):
        self.check(5, THREE, 1, [0, 5, 0, 10, 0], 1)
        self.check(5, THREE, 1, [0, 7, 0, 10, 0], 0)
        self.check(5, THREE, 1, [0, 6, 0, 9, 0], 1)
        self.check(5, THREE, 1, [0, 6, 0, 11, 0], 0)
        self.check(5, THREE, 1, [1, 6, 0, 10, 0], 0)
        self.check(5, THREE, 1, [0, 6, 1, 10, 0], 0)
        self.check(5, THREE, 1, [0, 6, 0, 10, 1], 0)

    def test_the_bound_and_the_value_just_meet(self):
        for price, result in ((3, 0), (4, 0), (5, 1), (6, 1), (7, 1), (8, 0), (9, 0)):
            self.check(1, [(1, 0, 7), (1, 0, 5)], 1, [price], result)

    def test_without_prices(self):
        for count, result in ((0, 0), (1, 0), (2, 1), (3, 1), (8, 1)):
            self.check(5, THREE, count, [0] * 5, result)

    def test_the_highest_prices(self):
        self.check(5, THREE, 0, [1000] * 5, 1)
        self.check(5, THREE, 1, [1000] * 5, 0)
        self.check(12, [(12, 0, 100)] * 8, 0, [1000] * 12, 1)

    def test_no_users_at_all(self):
        for count in (0, 8):
            self.check(12, [], count, [0] * 12, 1)
            self.check(12, [], count, [0] * 11 + [1], int(count == 0))
            self.check(1, [], count, [1000], int(count == 0))


class RangeTest(unittest.TestCase):
    """The ranges of both calls, which are the same."""

    def check(self, grade_count, users, count, prices, refused):
        for call in BOTH:
            with self.subTest(call=call.__name__, grade_count=grade_count, count=count, prices=prices):
                before, answer, behind = told_on(
                    network(grade_count, users), list_users(), call(count, prices), list_users(),
                )
                self.assertEqual(answer == [-22], refused)
                self.assertEqual(behind, before)

    def test_the_number_of_cascades(self):
        for count in (0, 1, 7, 8):
            self.check(5, THREE, count, [0, 6, 0, 10, 0], False)
        for count in (9, 10, 256, BIGGEST):
            self.check(5, THREE, count, [0, 6, 0, 10, 0], True)

    def test_the_number_of_prices(self):
        for grade_count in range(1, 13):
            for length in (*range(15), 59, 60):
                self.check(grade_count, [(1, 0, 3)], 1, [0] * length, length != grade_count)
                self.check(grade_count, [], 8, [1000] * length, length != grade_count)

    def test_each_price(self):
        for grade_count in (1, 5, 12):
            for grade in range(grade_count):
                for price in (0, 1, 999, 1000, 1001, 1002, 65536, 2 ** 31, BIGGEST):
                    prices = [0] * grade_count
                    prices[grade] = price
                    self.check(grade_count, [(1, 0, 3)], 1, prices, price > 1000)
                    prices = [1000] * grade_count
                    prices[grade] = price
                    self.check(grade_count, [], 1, prices, price > 1000)

    def test_several_at_once(self):
        for prices in ([], [1001] * 4, [1001] * 5, [1001] * 6, [BIGGEST] * 60, [0] * 60):
            for count in (9, BIGGEST):
                self.check(5, THREE, count, prices, True)

    def test_a_grade_count_that_was_refused_counts_for_nothing(self):
        for call, answer in ((dual_bound, 0), (proves_optimality, 1)):
            self.assertEqual(
                told([create(2), create(13), call(0, [0] * 13), call(0, [0, 0]), create(3), call(0, [0, 0])]),
                [[0], [-22], [-22], [answer], [0], [-22]],
            )


class PassedOverTest(unittest.TestCase):
    """The prices are passed over, however the call is answered; were they read as calls, they'd change the network."""

    PRICES = ([], [0], [0, 5], [0, 5, 1, 5, 3, 10], [3] * 59, [2, 0] * 30)

    def test_with_an_error(self):
        for call in BOTH:
            for prices in self.PRICES:
                for count in (0, 1, 9, BIGGEST):
                    with self.subTest(call=call.__name__, prices=prices, count=count):
                        self.assertEqual(
                            told_on(network(5, THREE), call(count, prices), list_users()), [[-22], LISTED],
                        )

    def test_without_a_network(self):
        for call in BOTH:
            for prices in self.PRICES:
                with self.subTest(call=call.__name__, prices=prices):
                    self.assertEqual(
                        told([call(1, prices), list_users(), create(5), list_users()]), [[-11], [-11], [0], [0]],
                    )

    def test_behind_one_another(self):
        prices = [0, 2, 1, 0, 3]
        self.assertEqual(
            told_on(network(5, THREE), dual_bound(2, prices), dual_bound(2, [0, 5]), proves_optimality(2, prices),
                    proves_optimality(2, [0] * 5), proves_optimality(9, [0] * 5), list_users()),
            [[12 + 7 + 3 + 8], [-22], [0], [1], [-22], LISTED],
        )

    def test_at_the_end_of_the_list(self):
        self.assertEqual(answers([16, 1, 0]), [1, -11])
        self.assertEqual(answers([17, 1, 2, 0, 5]), [1, -11])
        self.assertEqual(answers([0, 2, 16, 1, 2, 7, 8]), [1, 0, 1, 15])
        self.assertEqual(answers([0, 2, 17, 1, 3, 7, 8, 9]), [1, 0, 1, -22])


if __name__ == "__main__":
    unittest.main()
