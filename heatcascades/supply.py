"""The calls of a session, written one behind another in one list, and their answers."""

from heatcascades.network import NO_NETWORK, Network

CREATE = 0
ADD_USER = 1
REMOVE_USER = 2
LIST_USERS = 3
SET_VALUE = 4
LOAD = 5
PEAK_LOAD = 6
PEAK_GRADE = 7
MIN_CASCADES = 8

# The place is a call's number: so many numbers come behind it. assign_cascades is the last.
ARGUMENT_COUNTS = (1, 3, 1, 0, 2, 1, 0, 0, 0, 1)


def answer_about_users(network, call, given):
    """Answer a call from add_user to set_value."""
    if call == ADD_USER:
        return network.add_user(given[0], given[1], given[2])
    if call == REMOVE_USER:
        return network.remove_user(given[0])
    if call == LIST_USERS:
        return network.list_users()
    return network.set_value(given[0], given[1])


def answer_about_load(network, call, given):
    """Answer a call from load to assign_cascades."""
    if call == LOAD:
        return network.load(given[0])
    if call == PEAK_LOAD:
        return network.peak_load()
    if call == PEAK_GRADE:
        return network.peak_grade()
    if call == MIN_CASCADES:
        return network.min_cascades()
    return network.assign_cascades(given[0])


def answer(network, call, given):
    """Answer one call; that there is no network goes ahead of every other error."""
    if call == CREATE:
        return network.create(given[0])
    if not network.exists():
        return [NO_NETWORK]
    if call <= SET_VALUE:
        return answer_about_users(network, call, given)
    return answer_about_load(network, call, given)


def answers(calls):
    """Answer each call in order on a new network: how many numbers are answered, then these."""
    network = Network()
    told = []
    place = 0
    while place < len(calls):
        call = calls[place]
        behind = place + 1 + ARGUMENT_COUNTS[call]
        answered = answer(network, call, calls[place + 1:behind])
        told.append(len(answered))
        told.extend(answered)
        place = behind
    return told
