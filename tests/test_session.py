"""Whole sessions: the call ahead of create, errors and the state, the example, the list handed in."""

import unittest

from heatcascades.supply import answers
from tests.session import (
    BIGGEST, add_user, assign_cascades, best_set, can_follow, create, dual_bound, is_servable, list_users, load,
    loss_without, marginal_value, min_cascades, network, peak_grade, peak_load, peak_users, proves_optimality,
    remove_user, set_value, summary, told, told_on, value_of,
)

THREE = [(5, 3, 10), (3, 1, 6), (4, 2, 9)]
PRICES = [0, 6, 0, 10, 0]

# Each call but create, with arguments that would do and with such as break every other rule.
AHEAD_OF_CREATE = [
    add_user(5, 3, 10), add_user(3, 3, 101), add_user(BIGGEST, BIGGEST, BIGGEST),
    remove_user(0), remove_user(BIGGEST),
    list_users(),
    set_value(0, 1), set_value(BIGGEST, BIGGEST),
    load(0), load(1), load(BIGGEST),
    peak_load(), peak_grade(), min_cascades(),
    assign_cascades(0), assign_cascades(1), assign_cascades(BIGGEST),
    is_servable(0, 0), is_servable(1, 1), is_servable(BIGGEST, BIGGEST),
    best_set(0), best_set(8), best_set(9), best_set(BIGGEST),
    value_of(0), value_of(1), value_of(BIGGEST),
    marginal_value(0), marginal_value(1), marginal_value(8), marginal_value(BIGGEST),
    can_follow(0, 0), can_follow(0, 1), can_follow(BIGGEST, BIGGEST),
    peak_users(),
    # Prices that would make a network, were they read as calls.
    dual_bound(1, []), dual_bound(1, [0, 5, 0, 5]), dual_bound(BIGGEST, [0, 5] * 30), dual_bound(0, [BIGGEST]),
    proves_optimality(1, []), proves_optimality(1, [0, 5, 0, 5]), proves_optimality(BIGGEST, [0, 5] * 30),
    loss_without(0, 1), loss_without(0, 9), loss_without(BIGGEST, BIGGEST),
    summary(),
]

# Each call with arguments that it refuses on a network of 5 grades and the three users.
REFUSED = [
    (create(0), -22), (create(13), -22), (create(BIGGEST), -22),
    (add_user(3, 3, 1), -22), (add_user(6, 3, 1), -22), (add_user(5, 3, 101), -22),
    (remove_user(3), -2), (remove_user(BIGGEST), -2),
    (set_value(3, 1), -2), (set_value(0, 101), -22), (set_value(3, 101), -2),
    (load(0), -22), (load(6), -22), (load(BIGGEST), -22),
    (assign_cascades(8), -2), (assign_cascades(BIGGEST), -2),
    (is_servable(8, 1), -2), (is_servable(BIGGEST, BIGGEST), -2),
    (best_set(9), -22), (best_set(BIGGEST), -22),
    (value_of(8), -2), (value_of(BIGGEST), -2),
    (marginal_value(0), -22), (marginal_value(9), -22), (marginal_value(BIGGEST), -22),
    (can_follow(3, 0), -2), (can_follow(0, 3), -2), (can_follow(BIGGEST, BIGGEST), -2),
    (dual_bound(9, PRICES), -22), (dual_bound(1, PRICES[:4]), -22), (dual_bound(1, PRICES + [0]), -22),
    (dual_bound(1, []), -22), (dual_bound(1, [0, 0, 1001, 0, 0]), -22), (dual_bound(9, [BIGGEST] * 60), -22),
    (proves_optimality(9, PRICES), -22), (proves_optimality(1, PRICES[:4]), -22),
    (proves_optimality(1, PRICES + [0]), -22), (proves_optimality(1, []), -22),
    (proves_optimality(1, [0, 0, 1001, 0, 0]), -22), (proves_optimality(9, [BIGGEST] * 60), -22),
    (loss_without(3, 1), -2), (loss_without(0, 9), -22), (loss_without(3, 9), -2),
]

LOOKS = [list_users(), load(1), load(2), load(3), load(4), load(5), load(6), peak_load(), peak_grade(),
         min_cascades(), assign_cascades(7), assign_cascades(8), is_servable(7, 1), is_servable(7, 2),
         is_servable(8, 2), best_set(1), best_set(2), value_of(5), value_of(8), marginal_value(1), marginal_value(2),
         can_follow(0, 1), can_follow(1, 0), peak_users(), dual_bound(1, PRICES), proves_optimality(1, PRICES),
         dual_bound(1, [0] * 5), loss_without(0, 1), loss_without(1, 1), loss_without(2, 2), summary()]


class AheadOfCreateTest(unittest.TestCase):
    def test_each_call(self):
        for call in AHEAD_OF_CREATE:
            with self.subTest(call=call):
                self.assertEqual(told([call]), [[-11]])

    def test_all_in_one_session(self):
        self.assertEqual(told(AHEAD_OF_CREATE), [[-11]] * len(AHEAD_OF_CREATE))

    def test_after_a_refused_create(self):
        for grade_count in (0, 13, BIGGEST):
            for call in AHEAD_OF_CREATE:
                with self.subTest(grade_count=grade_count, call=call):
                    self.assertEqual(told([create(grade_count), call]), [[-22], [-11]])

    def test_nothing_is_left_of_them(self):
        self.assertEqual(told_on(AHEAD_OF_CREATE, create(5), list_users()), [[0], [0]])

    def test_none_is_answered_so_once_there_is_a_network(self):
        for answer in told_on([create(5)], create(0), *AHEAD_OF_CREATE):
            self.assertNotEqual(answer, [-11])


class RefusalTest(unittest.TestCase):
    def test_each_refusal_is_its_code_alone(self):
        for call, code in REFUSED:
            with self.subTest(call=call):
                self.assertEqual(told_on(network(5, THREE), call), [[code]])

    def test_a_refusal_leaves_the_state_as_it_was(self):
        before = told_on(network(5, THREE), *LOOKS)
        for call, code in REFUSED:
            with self.subTest(call=call):
                self.assertEqual(told_on(network(5, THREE), call, *LOOKS), [[code]] + before)

    def test_a_full_network_stays_as_it_was(self):
        full = network(5, THREE * 2 + THREE[:2])
        before = told_on(full, *LOOKS)
        self.assertEqual(told_on(full, add_user(5, 3, 10), *LOOKS), [[-28]] + before)
        self.assertEqual(told_on(full, add_user(3, 3, 10), *LOOKS), [[-22]] + before)

    def test_a_call_that_only_looks_leaves_the_state_too(self):
        once = told_on(network(5, THREE), *LOOKS)
        self.assertEqual(told_on(network(5, THREE), *LOOKS, *LOOKS), once + once)


class ExampleTest(unittest.TestCase):
    def test_the_example_of_the_document(self):
        self.assertEqual(
            told([
                create(5), add_user(5, 3, 10), add_user(3, 1, 6), add_user(4, 2, 9), peak_load(), assign_cascades(7),
                best_set(1), dual_bound(1, [0, 6, 0, 10, 0]), proves_optimality(1, [0, 6, 0, 10, 0]),
                add_user(3, 3, 1),
            ]),
            [[0], [0], [1], [2], [2], [2, 2, 0, 1, 1, 2], [16, 3], [16], [1], [-22]],
        )


class FormTest(unittest.TestCase):
    CALLS = [7, 0, 5, 1, 5, 3, 10, 1, 3, 1, 6, 1, 4, 2, 9, 6, 9, 7, 1, 3, 3, 1, 0, 13, 3, 2, 1, 3, 4, 1, 0, 5, 4, 8]
    ANSWERS = [1, -11, 1, 0, 1, 0, 1, 1, 1, 2, 1, 2, 6, 2, 2, 0, 1, 1, 2, 1, -22, 1, -22,
               10, 3, 5, 3, 10, 3, 1, 6, 4, 2, 9, 1, 2, 7, 2, 5, 3, 10, 4, 2, 9, 1, 9, 1, 2, 1, 2]

    def test_the_numbers_one_behind_another(self):
        self.assertEqual(answers(list(self.CALLS)), self.ANSWERS)

    def test_what_comes_back_is_a_list_of_whole_numbers(self):
        back = answers(list(self.CALLS))
        self.assertIs(type(back), list)
        self.assertEqual({type(number) for number in back}, {int})

    def test_the_list_handed_in_stands_as_it_was(self):
        handed = list(self.CALLS)
        answers(handed)
        self.assertEqual(handed, self.CALLS)

    def test_a_second_time_answers_as_the_first(self):
        handed = list(self.CALLS)
        first = answers(handed)
        kept = list(first)
        second = answers(handed)
        self.assertEqual(second, first)
        self.assertIsNot(second, first)
        second.append(0)
        self.assertEqual(first, kept)

    def test_nothing_is_kept_from_one_session_to_the_next(self):
        told(network(5, THREE))
        self.assertEqual(told([list_users()]), [[-11]])
        self.assertEqual(told([create(5), list_users()]), [[0], [0]])

    def test_each_call_alone(self):
        self.assertEqual(answers([0, 12]), [1, 0])
        self.assertEqual(answers([0, 13]), [1, -22])
        self.assertEqual(answers([8]), [1, -11])

    def test_two_hundred_calls(self):
        steps = [create(12)] + [add_user(12, 0, 100)] * 8 + [assign_cascades(255)] * 191
        self.assertEqual(len(steps), 200)
        whole = [8] + [number for user in range(8) for number in (1, user)]
        self.assertEqual(told(steps), [[0]] + [[user] for user in range(8)] + [whole] * 191)

    def test_two_hundred_calls_with_the_most_prices(self):
        steps = [create(12)] + [dual_bound(8, [1000] * 60)] * 198 + [dual_bound(8, [1000] * 12)]
        self.assertEqual(told(steps), [[0]] + [[-22]] * 198 + [[96000]])

    def test_create_at_any_place(self):
        self.assertEqual(
            told([create(2), add_user(2, 0, 1), create(12), add_user(12, 3, 4), list_users(), create(1),
                  add_user(12, 3, 4), list_users(), create(0), add_user(1, 0, 7), list_users()]),
            [[0], [0], [0], [0], [1, 12, 3, 4], [0], [-22], [0], [-22], [0], [1, 1, 0, 7]],
        )


if __name__ == "__main__":
    unittest.main()
