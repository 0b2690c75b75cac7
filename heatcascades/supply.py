"""The calls of a session, written one behind another in one list, and their answers."""

from heatcascades.network import NO_NETWORK, Network

CREATE = 0
ADD_USER = 1
REMOVE_USER = 2
LIST_USERS = 3
SET_VALUE = 4
LOAD = 5
PEAK_LOAD = 6
PEAK_GRADE = 7
MIN_CASCADES = 8
ASSIGN_CASCADES = 9
IS_SERVABLE = 10
BEST_SET = 11
VALUE_OF = 12
MARGINAL_VALUE = 13
CAN_FOLLOW = 14
PEAK_USERS = 15
DUAL_BOUND = 16
PROVES_OPTIMALITY = 17
LOSS_WITHOUT = 18

# The place is a call's number, summary's the last: so many numbers come behind it, and then its prices.
ARGUMENT_COUNTS = (1, 3, 1, 0, 2, 1, 0, 0, 0, 1, 2, 1, 1, 1, 2, 0, 2, 2, 2, 0)


def answer_about_users(network, call, given):
    """Answer a call from add_user to set_value."""
    if call == ADD_USER:
        return network.add_user(given[0], given[1], given[2])
    if call == REMOVE_USER:
        return network.remove_user(given[0])
    if call == LIST_USERS:
        return network.list_users()
    return network.set_value(given[0], given[1])


def answer_about_load(network, call, given):
    """Answer a call from load to assign_cascades."""
    if call == LOAD:
        return network.load(given[0])
    if call == PEAK_LOAD:
        return network.peak_load()
    if call == PEAK_GRADE:
        return network.peak_grade()
    if call == MIN_CASCADES:
        return network.min_cascades()
    return network.assign_cascades(given[0])


def answer_about_sets(network, call, given):
    """Answer a call from is_servable to marginal_value."""
    if call == IS_SERVABLE:
        return network.is_servable(given[0], given[1])
    if call == BEST_SET:
        return network.best_set(given[0])
    if call == VALUE_OF:
        return network.value_of(given[0])
    return network.marginal_value(given[0])


def answer_the_rest(network, call, given):
    """Answer a call from can_follow to summary."""
    if call == CAN_FOLLOW:
        return network.can_follow(given[0], given[1])
    if call == PEAK_USERS:
        return network.peak_users()
    if call == DUAL_BOUND:
        return network.dual_bound(given[0], given[2:])
    if call == PROVES_OPTIMALITY:
        return network.proves_optimality(given[0], given[2:])
    if call == LOSS_WITHOUT:
        return network.loss_without(given[0], given[1])
    return network.summary()


def answer(network, call, given):
    """Answer one call; that there is no network goes ahead of every other error."""
    if call == CREATE:
        return network.create(given[0])
    if not network.exists():
        return [NO_NETWORK]
    if call <= SET_VALUE:
        return answer_about_users(network, call, given)
    if call <= ASSIGN_CASCADES:
        return answer_about_load(network, call, given)
    if call <= MARGINAL_VALUE:
        return answer_about_sets(network, call, given)
    return answer_the_rest(network, call, given)


def place_behind(calls, place):
    """Answer the place behind the call at this place and all that it is given."""
    call = calls[place]
    behind = place + 1 + ARGUMENT_COUNTS[call]
    if call == DUAL_BOUND or call == PROVES_OPTIMALITY:
        # The last number so far is the count of the prices. They belong to the call however it is answered.
        return behind + calls[behind - 1]
    return behind


def answers(calls):
    """Answer each call in order on a new network: how many numbers are answered, then these."""
    network = Network()
    told = []
    place = 0
    while place < len(calls):
        behind = place_behind(calls, place)
        answered = answer(network, calls[place], calls[place + 1:behind])
        told.append(len(answered))
        told.extend(answered)
        place = behind
    return told
