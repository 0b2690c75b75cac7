"""What the tests share: the calls by name, sessions that answer call by call, and networks to try them at."""

import random

from heatcascades.supply import answers

BIGGEST = 4294967295
MOST_CALLS = 200


def create(grade_count):
    return [0, grade_count]


def add_user(supply_grade, return_grade, value):
    return [1, supply_grade, return_grade, value]


def remove_user(user):
    return [2, user]


def list_users():
    return [3]


def set_value(user, value):
    return [4, user, value]


def load(grade):
    return [5, grade]


def peak_load():
    return [6]


def peak_grade():
    return [7]


def min_cascades():
    return [8]


def assign_cascades(user_set):
    return [9, user_set]


def is_servable(user_set, cascade_count):
    return [10, user_set, cascade_count]


def best_set(cascade_count):
    return [11, cascade_count]


def value_of(user_set):
    return [12, user_set]


def marginal_value(cascade_count):
    return [13, cascade_count]


def can_follow(user, following):
    return [14, user, following]


def peak_users():
    return [15]


def dual_bound(cascade_count, prices):
    return [16, cascade_count, len(prices)] + prices


def proves_optimality(cascade_count, prices):
    return [17, cascade_count, len(prices)] + prices


def loss_without(user, cascade_count):
    return [18, user, cascade_count]


def summary():
    return [19]


def network(grade_count, users):
    """The calls that build a network of the users, each (supply_grade, return_grade, value)."""
    return [create(grade_count)] + [add_user(*user) for user in users]


def told(calls):
    """The answers to the calls, a list for each call."""
    flat = answers([number for call in calls for number in call])
    split = []
    place = 0
    while place < len(flat):
        behind = place + 1 + flat[place]
        assert behind <= len(flat), f"an answer is cut short: {flat}"
        split.append(flat[place + 1:behind])
        place = behind
    assert len(split) == len(calls), f"{len(calls)} calls, {len(split)} answers: {flat}"
    return split


def told_on(before, *calls):
    """The answers to the calls behind those that come before, whose answers are left out."""
    return told(before + list(calls))[len(before):]


def told_each(before, calls):
    """As told_on, but shared out over as many sessions as so many calls need."""
    room = MOST_CALLS - len(before)
    answered = []
    for start in range(0, len(calls), room):
        answered += told_on(before, *calls[start:start + room])
    return answered


def cascades_in(answer):
    """The cascades in an answer of assign_cascades."""
    cascades = []
    place = 1
    while place < len(answer):
        behind = place + 1 + answer[place]
        cascades.append(answer[place + 1:behind])
        place = behind
    return cascades


def members(user_set):
    return [user for user in range(8) if user_set & 2 ** user]


def peak(users, chosen):
    """The peak load of the chosen users."""
    return max(sum(users[user][1] < grade <= users[user][0] for user in chosen) for grade in range(1, 13))


def worth(users, user_set):
    """The value of the set."""
    return sum(users[user][2] for user in members(user_set))


def best(users, cascade_count):
    """The value and the bit mask of the best set, found among all sets."""
    fitting = [user_set for user_set in range(2 ** len(users)) if peak(users, members(user_set)) <= cascade_count]
    value = max(worth(users, user_set) for user_set in fitting)
    return [value, min(user_set for user_set in fitting if worth(users, user_set) == value)]


def drawn_users(draw, grade_count, count):
    """Users drawn at random; short ones and long ones, dear ones and such as are worth the same."""
    users = []
    for user in range(count):
        top = draw.randint(1, grade_count)
        bottom = draw.randint(max(0, top - draw.randint(1, 12)), top - 1)
        users.append((top, bottom, draw.choice((0, 1, 5, 100, draw.randint(0, 100)))))
    return users


def drawn_networks(seed, turns):
    """Networks drawn at random, each (grade_count, users)."""
    draw = random.Random(seed)
    networks = []
    for turn in range(turns):
        grade_count = draw.randint(1, 12)
        networks.append((grade_count, drawn_users(draw, grade_count, draw.randint(0, 8))))
    return networks


# The fewest and the most users on the fewest and the most grades, and some between.
NETWORKS = [
    (1, []),
    (12, []),
    (1, [(1, 0, 7)]),
    (12, [(12, 0, 100)]),
    (1, [(1, 0, value) for value in (5, 0, 100, 5, 17, 99, 1, 5)]),
    (1, [(1, 0, 0)] * 8),
    (12, [(12, 0, 100)] * 8),
    (12, [(grade, grade - 1, grade) for grade in (3, 8, 1, 6, 2, 12, 4, 7)]),
    (12, [(12, 6, 40), (6, 0, 40), (9, 3, 70), (12, 9, 25), (3, 0, 25), (10, 2, 66), (7, 5, 12), (12, 0, 90)]),
    (12, [(12, 11, 3), (12, 0, 100), (11, 10, 0), (11, 0, 99), (2, 1, 30), (1, 0, 30), (6, 5, 30), (12, 1, 30)]),
    (5, [(5, 3, 10), (3, 1, 6), (4, 2, 9)]),
] + drawn_networks(5, 20)
