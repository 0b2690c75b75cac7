"""load, peak_load and peak_grade."""

import unittest

from tests.session import (
    BIGGEST, create, load, network, peak_grade, peak_load, remove_user, set_value, told, told_on,
)

THREE = [(5, 3, 10), (3, 1, 6), (4, 2, 9)]


class LoadTest(unittest.TestCase):
    def test_each_grade(self):
        self.assertEqual(
            told_on(network(5, THREE), load(1), load(2), load(3), load(4), load(5)),
            [[0], [1], [2], [2], [1]],
        )

    def test_a_user_occupies_its_supply_grade_and_not_its_return_grade(self):
        for supply_grade in range(1, 13):
            for return_grade in range(supply_grade):
                with self.subTest(grades=(supply_grade, return_grade)):
                    self.assertEqual(
                        told_on(network(12, [(supply_grade, return_grade, 1)]), *map(load, range(1, 13))),
                        [[int(return_grade < grade <= supply_grade)] for grade in range(1, 13)],
                    )

    def test_grades_outside_the_range(self):
        for grade_count in (1, 5, 12):
            for grade in (0, grade_count + 1, grade_count + 2, 13, BIGGEST):
                with self.subTest(grade_count=grade_count, grade=grade):
                    self.assertEqual(told_on(network(grade_count, [(1, 0, 1)]), load(grade)), [[-22]])

    def test_the_only_grade(self):
        self.assertEqual(
            told_on(network(1, [(1, 0, 1)] * 8), load(1), load(0), load(2)), [[8], [-22], [-22]],
        )

    def test_no_users_at_all(self):
        self.assertEqual(
            told([create(5), load(0), load(1), load(5), load(6)]), [[0], [-22], [0], [0], [-22]],
        )

    def test_values_do_not_count(self):
        self.assertEqual(told_on(network(5, THREE), set_value(0, 0), load(5)), [[10], [1]])


class PeakTest(unittest.TestCase):
    def test_the_example(self):
        self.assertEqual(told_on(network(5, THREE), peak_load(), peak_grade()), [[2], [3]])

    def test_no_users_at_all(self):
        for grade_count in (1, 2, 12):
            with self.subTest(grade_count=grade_count):
                self.assertEqual(told([create(grade_count), peak_load(), peak_grade()]), [[0], [0], [1]])

    def test_the_lowest_of_equal_grades(self):
        self.assertEqual(
            told_on(network(12, [(12, 11, 1), (5, 4, 1), (9, 3, 1), (12, 10, 1)]), peak_load(), peak_grade()),
            [[2], [5]],
        )

    def test_a_peak_at_each_grade(self):
        for grade_count in (1, 5, 12):
            for grade in range(1, grade_count + 1):
                users = [(grade_count, 0, 1), (grade, grade - 1, 1)]
                with self.subTest(grade_count=grade_count, grade=grade):
                    self.assertEqual(
                        told_on(network(grade_count, users), peak_load(), peak_grade()), [[2], [grade]],
                    )

    def test_every_number_of_users(self):
        for count in range(1, 9):
            with self.subTest(count=count):
                self.assertEqual(
                    told_on(network(12, [(12, 7, 1)] * count), peak_load(), peak_grade()), [[count], [8]],
                )

    def test_users_in_a_row_do_not_add_up(self):
        users = [(grade, grade - 1, 1) for grade in (3, 8, 1, 6, 2, 5, 4, 7)]
        self.assertEqual(told_on(network(12, users), peak_load(), peak_grade()), [[1], [1]])

    def test_a_removed_user_counts_no_more(self):
        self.assertEqual(
            told_on(network(5, THREE), remove_user(1), peak_load(), peak_grade(), remove_user(0), remove_user(0),
                    peak_load(), peak_grade()),
            [[2], [2], [4], [1], [0], [0], [1]],
        )


if __name__ == "__main__":
    unittest.main()
