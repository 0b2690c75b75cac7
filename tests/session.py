"""What the tests share: the calls by name, and a session that answers call by call."""

from heatcascades.supply import answers

BIGGEST = 4294967295


def create(grade_count):
    return [0, grade_count]


def add_user(supply_grade, return_grade, value):
    return [1, supply_grade, return_grade, value]


def remove_user(user):
    return [2, user]


def list_users():
    return [3]


def set_value(user, value):
    return [4, user, value]


def load(grade):
    return [5, grade]


def peak_load():
    return [6]


def peak_grade():
    return [7]


def min_cascades():
    return [8]


def assign_cascades(user_set):
    return [9, user_set]


def network(grade_count, users):
    """The calls that build a network of the users, each (supply_grade, return_grade, value)."""
    return [create(grade_count)] + [add_user(*user) for user in users]


def told(calls):
    """The answers to the calls, a list for each call."""
    flat = answers([number for call in calls for number in call])
    split = []
    place = 0
    while place < len(flat):
        behind = place + 1 + flat[place]
        assert behind <= len(flat), f"an answer is cut short: {flat}"
        split.append(flat[place + 1:behind])
        place = behind
    assert len(split) == len(calls), f"{len(calls)} calls, {len(split)} answers: {flat}"
    return split


def told_on(before, *calls):
    """The answers to the calls behind those that come before, whose answers are left out."""
    return told(before + list(calls))[len(before):]
