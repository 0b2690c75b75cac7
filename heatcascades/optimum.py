"""The best set of users for a number of cascades, and the bound that prices put on its value."""

from heatcascades.cascades import members_of, peak_load_of


def value_of_set(users, user_set):
    """Add up the values of the users in the bit mask."""
    return sum([users[number].value for number in members_of(user_set, len(users))])


def peak_load_of_set(users, grade_count, user_set):
    """Answer the peak load of the users in the bit mask."""
    chosen = [users[number] for number in members_of(user_set, len(users))]
    return peak_load_of(chosen, grade_count)


def best_set_of(users, grade_count, cascade_count):
    """Answer the value of the best set and its bit mask."""
    # The set without users, of value 0, needs no cascade.
    best_value = 0
    best_set = 0
    # The bit masks go up, and only a greater value takes over: so ties go to the smallest one.
    for user_set in range(1 << len(users)):
        value = value_of_set(users, user_set)
        if value > best_value and peak_load_of_set(users, grade_count, user_set) <= cascade_count:
            best_value = value
            best_set = user_set
    return (best_value, best_set)


def best_value_of(users, grade_count, cascade_count):
    """Answer the value of the best set."""
    return best_set_of(users, grade_count, cascade_count)[0]


def dual_bound_of(users, cascade_count, prices):
    """Answer the dual bound of the prices, that of grade 1 first."""
    bound = cascade_count * sum(prices)
    for user in users:
        bound = bound + max(0, user.value - user.cost(prices))
    return bound
