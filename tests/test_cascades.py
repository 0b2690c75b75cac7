"""min_cascades, assign_cascades and requirement 1."""

import itertools
import random
import unittest

from tests.session import (
    BIGGEST, assign_cascades, create, list_users, min_cascades, network, remove_user, told, told_on,
)

THREE = [(5, 3, 10), (3, 1, 6), (4, 2, 9)]
EIGHT = THREE + [(1, 0, 0), (5, 0, 100), (2, 1, 7), (5, 4, 1), (3, 0, 2)]


def written(cascades):
    """An assignment as the program answers it."""
    return [len(cascades)] + [number for cascade in cascades for number in [len(cascade)] + cascade]


def read(answer):
    """The cascades of an answer."""
    cascades = []
    place = 1
    while place < len(answer):
        behind = place + 1 + answer[place]
        cascades.append(answer[place + 1:behind])
        place = behind
    return cascades


def members(user_set):
    return [user for user in range(8) if user_set & 2 ** user]


def peak(users, chosen):
    return max(sum(users[user][1] < grade <= users[user][0] for user in chosen) for grade in range(1, 13))


def can_follow(users, following, leading):
    return users[following][0] <= users[leading][1]


def fewest(users, chosen, cascades=()):
    """The fewest cascades that hold the chosen users, found by trying every way to share them out."""
    if not chosen:
        return len(cascades)
    user, rest = chosen[0], chosen[1:]
    best = fewest(users, rest, cascades + ((user,),))
    for place, cascade in enumerate(cascades):
        if all(can_follow(users, user, other) or can_follow(users, other, user) for other in cascade):
            longer = cascades[:place] + (cascade + (user,),) + cascades[place + 1:]
            best = min(best, fewest(users, rest, longer))
    return best


def assigned(grade_count, users, sets):
    """The assignment of each set; the sets are shared out over sessions of at most 200 calls."""
    build = network(grade_count, users)
    room = 200 - len(build)
    answers = []
    for start in range(0, len(sets), room):
        answers += told_on(build, *map(assign_cascades, sets[start:start + room]))
    return answers


class AssignCascadesTest(unittest.TestCase):
    def check(self, grade_count, users, user_set, cascades):
        self.assertEqual(told_on(network(grade_count, users), assign_cascades(user_set)), [written(cascades)])

    def test_the_example(self):
        self.check(5, THREE, 7, [[0, 1], [2]])

    def test_each_set_of_the_example(self):
        for user_set, cascades in enumerate(
            ([], [[0]], [[1]], [[0, 1]], [[2]], [[0], [2]], [[2], [1]], [[0, 1], [2]]),
        ):
            with self.subTest(user_set=user_set):
                self.check(5, THREE, user_set, cascades)

    def test_equal_supply_grades_go_by_number(self):
        self.check(5, [(5, 4, 1), (5, 0, 1), (4, 0, 1), (5, 4, 1)], 15, [[0, 2], [1], [3]])
        self.check(5, [(5, 0, 1), (5, 4, 1), (4, 0, 1)], 7, [[0], [1, 2]])
        self.check(9, [(4, 3, 1), (4, 1, 1), (9, 4, 1), (8, 4, 1)], 15, [[2, 0], [3, 1]])
        self.check(3, [(3, 0, 1)] * 8, 255, [[user] for user in range(8)])

    def test_neither_return_grade_nor_value_breaks_a_tie(self):
        self.check(5, [(5, 1, 1), (5, 4, 99), (4, 1, 3), (1, 0, 0)], 15, [[0, 3], [1, 2]])
        self.check(5, [(5, 4, 99), (5, 1, 1), (4, 1, 3), (1, 0, 0)], 15, [[0, 2, 3], [1]])

    def test_the_first_cascade_that_can_take_the_user(self):
        self.check(9, [(9, 5, 1), (8, 3, 1), (7, 3, 1), (3, 1, 1)], 15, [[0, 3], [1], [2]])
        self.check(9, [(9, 1, 1), (8, 3, 1), (7, 3, 1), (3, 0, 1)], 15, [[0], [1, 3], [2]])
        self.check(9, [(9, 1, 1), (8, 2, 1), (7, 3, 1), (3, 0, 1)], 15, [[0], [1], [2, 3]])
        self.check(9, [(9, 1, 1), (8, 2, 1), (7, 2, 1), (3, 0, 1)], 15, [[0], [1], [2], [3]])

    def test_only_the_last_user_of_a_cascade_counts(self):
        self.check(9, [(9, 7, 1), (7, 2, 1), (5, 0, 1), (2, 0, 1)], 15, [[0, 1, 3], [2]])

    def test_a_user_follows_at_the_return_grade_and_below(self):
        self.check(5, [(5, 3, 1), (3, 0, 1)], 3, [[0, 1]])
        self.check(5, [(5, 3, 1), (2, 0, 1)], 3, [[0, 1]])
        self.check(5, [(5, 3, 1), (4, 0, 1)], 3, [[0], [1]])

    def test_one_cascade_of_eight(self):
        users = [(grade, grade - 1, 1) for grade in (3, 8, 1, 6, 2, 5, 4, 7)]
        self.check(12, users, 255, [[1, 7, 3, 5, 6, 0, 4, 2]])

    def test_the_last_set_and_the_one_behind_it(self):
        for count in range(9):
            with self.subTest(count=count):
                last, behind = told_on(
                    network(5, EIGHT[:count]), assign_cascades(2 ** count - 1), assign_cascades(2 ** count),
                )
                self.assertEqual(sorted(sum(read(last), [])), list(range(count)))
                self.assertEqual(behind, [-2])

    def test_sets_with_users_that_do_not_exist(self):
        for user_set in (8, 9, 15, 16, 255, 256, 2 ** 31, 2 ** 32 - 8, BIGGEST):
            with self.subTest(user_set=user_set):
                self.assertEqual(
                    told_on(network(5, THREE), assign_cascades(user_set), list_users()),
                    [[-2], [3, 5, 3, 10, 3, 1, 6, 4, 2, 9]],
                )

    def test_no_users_at_all(self):
        self.assertEqual(
            told([create(5), assign_cascades(0), assign_cascades(1), min_cascades()]), [[0], [0], [-2], [0]],
        )

    def test_a_removed_user(self):
        self.assertEqual(
            told_on(network(5, THREE), remove_user(0), assign_cascades(3), assign_cascades(4), assign_cascades(7)),
            [[2], written([[1], [0]]), [-2], [-2]],
        )


class MinCascadesTest(unittest.TestCase):
    def test_the_example(self):
        self.assertEqual(told_on(network(5, THREE), min_cascades()), [[2]])

    def test_every_number_of_cascades(self):
        for count in range(9):
            users = [(5, 4, 1)] * count + [(4, 3, 1)] * (8 - count)
            with self.subTest(count=count):
                self.assertEqual(told_on(network(5, users), min_cascades()), [[max(count, 8 - count)]])

    def test_one_cascade_of_eight(self):
        users = [(grade, grade - 1, 1) for grade in (3, 8, 1, 6, 2, 5, 4, 7)]
        self.assertEqual(told_on(network(12, users), min_cascades()), [[1]])

    def test_after_a_removal(self):
        self.assertEqual(
            told_on(network(5, THREE), remove_user(2), min_cascades(), remove_user(0), min_cascades()),
            [[2], [1], [1], [1]],
        )


class RequirementTest(unittest.TestCase):
    """Requirement 1, at every small network and at many bigger ones."""

    def check(self, users, user_set, answer):
        chosen = members(user_set)
        cascades = read(answer)
        self.assertEqual(answer[0], len(cascades))
        self.assertEqual(len(cascades), peak(users, chosen))
        self.assertEqual(sorted(sum(cascades, [])), chosen)
        for cascade in cascades:
            self.assertNotEqual(cascade, [])
            for leading, following in zip(cascade, cascade[1:]):
                self.assertTrue(can_follow(users, following, leading))

    def check_network(self, grade_count, users, sets):
        for user_set, answer in zip(sets, assigned(grade_count, users, sets), strict=True):
            with self.subTest(users=users, user_set=user_set):
                self.check(users, user_set, answer)

    def test_small_networks_have_no_fewer(self):
        kinds = [(top, bottom, 1) for top in (1, 2, 3, 4) for bottom in range(top)]
        for count in range(4):
            for users in itertools.product(kinds, repeat=count):
                answer, least = told_on(network(4, users), assign_cascades(2 ** count - 1), min_cascades())
                self.check(users, 2 ** count - 1, answer)
                self.assertEqual(least, answer[:1])
                self.assertEqual(least, [fewest(users, tuple(range(count)))])

    def test_bigger_networks(self):
        draw = random.Random(20)
        for turn in range(200):
            grade_count = draw.randint(1, 12)
            users = []
            for user in range(draw.randint(0, 8)):
                top = draw.randint(1, grade_count)
                users.append((top, draw.randint(max(0, top - draw.randint(1, 12)), top - 1), draw.randint(0, 100)))
            sets = list(range(2 ** len(users)))
            self.check_network(grade_count, users, sets)
            self.assertEqual(
                told_on(network(grade_count, users), min_cascades()),
                [assigned(grade_count, users, sets[-1:])[0][:1]],
            )
            if turn < 20:
                self.assertEqual(peak(users, range(len(users))), fewest(users, tuple(range(len(users)))))


if __name__ == "__main__":
    unittest.main()
