"""Requirements 1 to 4, each over several networks and sets."""

import itertools
import random
import unittest

from tests.session import (
    NETWORKS, assign_cascades, best, best_set, cascades_in, drawn_networks, dual_bound, is_servable, marginal_value,
    members, min_cascades, network, peak, proves_optimality, told_each, told_on, value_of, worth,
)


def can_follow(users, following, leading):
    return users[following][0] <= users[leading][1]


def fewest(users, chosen, cascades=()):
    """The fewest cascades that hold the chosen users, found by trying every way to share them out."""
    if not chosen:
        return len(cascades)
    user, rest = chosen[0], chosen[1:]
    found = fewest(users, rest, cascades + ((user,),))
    for place, cascade in enumerate(cascades):
        if all(can_follow(users, user, other) or can_follow(users, other, user) for other in cascade):
            longer = cascades[:place] + (cascade + (user,),) + cascades[place + 1:]
            found = min(found, fewest(users, rest, longer))
    return found


def proving_prices(grade_count, users, cascade_count, user_set):
    """Prices that prove a best set to be one; for another set there are none.

    The sums of the prices up to each grade are raised until they meet what is asked: a user in the set costs at most
    its value, one outside the set at least its value, and a grade that has a cascade to spare costs nothing.
    """
    asked = [(grade - 1, grade, 0) for grade in range(1, grade_count + 1)]
    for grade in range(1, grade_count + 1):
        if sum(users[user][1] < grade <= users[user][0] for user in members(user_set)) < cascade_count:
            asked.append((grade, grade - 1, 0))
    for number, (top, bottom, value) in enumerate(users):
        asked.append((top, bottom, -value) if user_set & 2 ** number else (bottom, top, value))
    sums = [0] * (grade_count + 1)
    for turn in range(grade_count + 1):
        for low, high, more in asked:
            sums[high] = max(sums[high], sums[low] + more)
    return [sums[grade] - sums[grade - 1] for grade in range(1, grade_count + 1)]


def built_networks():
    """Each network: its number of grades, its users, the calls that build it."""
    return [(grade_count, users, network(grade_count, users)) for grade_count, users in NETWORKS]


class NetworksTest(unittest.TestCase):
    def test_the_edges_are_among_them(self):
        found = {(grade_count, len(users)) for grade_count, users in NETWORKS}
        for edge in itertools.product((1, 12), (0, 8)):
            self.assertIn(edge, found)


class AssignmentTest(unittest.TestCase):
    """Requirement 1: the assignment has as many cascades as the peak load, holds each user, and none has fewer."""

    def check(self, users, user_set, answer):
        chosen = members(user_set)
        cascades = cascades_in(answer)
        self.assertEqual(answer[0], len(cascades))
        self.assertEqual(len(cascades), peak(users, chosen))
        self.assertEqual(sorted(sum(cascades, [])), chosen)
        for cascade in cascades:
            self.assertNotEqual(cascade, [])
            for leading, following in zip(cascade, cascade[1:]):
                self.assertTrue(can_follow(users, following, leading))

    def check_every_set(self, grade_count, users):
        build = network(grade_count, users)
        sets = list(range(2 ** len(users)))
        answers = told_each(build, [assign_cascades(user_set) for user_set in sets])
        for user_set, answer in zip(sets, answers, strict=True):
            with self.subTest(users=users, user_set=user_set):
                self.check(users, user_set, answer)
        self.assertEqual(told_on(build, min_cascades()), [answers[-1][:1]])

    def test_every_set_of_each_network(self):
        for grade_count, users, build in built_networks():
            with self.subTest(grade_count=grade_count, users=users):
                self.check_every_set(grade_count, users)
                self.assertEqual(told_on(build, min_cascades()), [[fewest(users, tuple(range(len(users))))]])

    def test_small_networks_have_no_fewer(self):
        kinds = [(top, bottom, 1) for top in (1, 2, 3, 4) for bottom in range(top)]
        for count in range(4):
            for users in itertools.product(kinds, repeat=count):
                answer, least = told_on(network(4, users), assign_cascades(2 ** count - 1), min_cascades())
                self.check(users, 2 ** count - 1, answer)
                self.assertEqual(least, answer[:1])
                self.assertEqual(least, [fewest(users, tuple(range(count)))])

    def test_bigger_networks(self):
        for grade_count, users in drawn_networks(20, 150):
            self.check_every_set(grade_count, users)


class BestSetTest(unittest.TestCase):
    """Requirement 2: no set that so many cascades can serve has a greater value than the best set."""

    def test_no_set_is_better(self):
        for grade_count, users, build in built_networks():
            with self.subTest(grade_count=grade_count, users=users):
                sets = range(2 ** len(users))
                values = [answer[0] for answer in told_each(build, [value_of(user_set) for user_set in sets])]
                for count in range(9):
                    fits = told_each(build, [is_servable(user_set, count) for user_set in sets])
                    value, chosen = told_on(build, best_set(count))[0]
                    self.assertEqual(fits[chosen], [1])
                    self.assertEqual(values[chosen], value)
                    for user_set in sets:
                        if fits[user_set] == [1]:
                            self.assertLessEqual(values[user_set], value)
                            self.assertFalse(values[user_set] == value and user_set < chosen)

    def test_the_best_set_is_the_one_found_among_all(self):
        for grade_count, users, build in built_networks():
            with self.subTest(grade_count=grade_count, users=users):
                self.assertEqual(
                    told_on(build, *map(best_set, range(9))), [best(users, count) for count in range(9)],
                )

    def test_values_and_peak_loads_of_every_set(self):
        for grade_count, users, build in built_networks():
            with self.subTest(grade_count=grade_count, users=users):
                for user_set in range(2 ** len(users)):
                    load = peak(users, members(user_set))
                    counts = range(max(0, load - 1), load + 2)
                    self.assertEqual(told_on(build, value_of(user_set)), [[worth(users, user_set)]])
                    self.assertEqual(
                        told_on(build, *[is_servable(user_set, count) for count in counts]),
                        [[int(load <= count)] for count in counts],
                    )


class DualBoundTest(unittest.TestCase):
    """Requirement 3: no dual bound is less than the value of the best set, and for some prices they're equal."""

    def drawn_prices(self, draw, grade_count):
        """Prices that are all the same, and such as are drawn: low, high and mixed ones."""
        prices = [[price] * grade_count for price in (0, 1, 10, 100, 1000)]
        for most in (3, 30, 100, 1000):
            for turn in range(5):
                prices.append([draw.choice((0, draw.randint(0, most))) for grade in range(grade_count)])
        return prices

    def test_no_bound_is_less(self):
        draw = random.Random(3)
        for grade_count, users, build in built_networks():
            with self.subTest(grade_count=grade_count, users=users):
                for count in range(9):
                    value = told_on(build, best_set(count))[0][0]
                    for prices in self.drawn_prices(draw, grade_count):
                        bound, proven = told_on(build, dual_bound(count, prices), proves_optimality(count, prices))
                        self.assertGreaterEqual(bound[0], value)
                        self.assertEqual(proven, [int(bound[0] == value)])

    def test_some_prices_prove_it(self):
        for grade_count, users, build in built_networks():
            with self.subTest(grade_count=grade_count, users=users):
                for count in range(9):
                    value, chosen = told_on(build, best_set(count))[0]
                    prices = proving_prices(grade_count, users, count, chosen)
                    self.assertTrue(all(0 <= price <= 1000 for price in prices), prices)
                    self.assertEqual(
                        told_on(build, dual_bound(count, prices), proves_optimality(count, prices)), [[value], [1]],
                    )


class MarginalValueTest(unittest.TestCase):
    """Requirement 4: one cascade more never brings more than the one ahead of it."""

    def test_they_never_rise(self):
        for grade_count, users, build in built_networks():
            with self.subTest(grade_count=grade_count, users=users):
                margins = [answer[0] for answer in told_on(build, *map(marginal_value, range(1, 9)))]
                self.assertEqual(margins, sorted(margins, reverse=True))

    def test_together_they_are_the_value_of_the_best_set(self):
        for grade_count, users, build in built_networks():
            with self.subTest(grade_count=grade_count, users=users):
                margins = [answer[0] for answer in told_on(build, *map(marginal_value, range(1, 9)))]
                values = [answer[0] for answer in told_on(build, *map(best_set, range(9)))]
                self.assertEqual(values, [sum(margins[:count]) for count in range(9)])
                self.assertEqual(values[8], sum(user[2] for user in users))


if __name__ == "__main__":
    unittest.main()
