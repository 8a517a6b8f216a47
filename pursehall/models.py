"""Things that are used, as machines: shelves that grow, counters, and queues of two stacks."""

from pursehall.errors import BadModel
from pursehall.exact import is_between

MOST_ITEMS = 30
LEAST_GROW = 2
MOST_GROW = 4
MOST_SHRINK = 9
MOST_BITS = 6
MOST_QUEUE = 15


def look_measure(word, number, least, most):
    if not is_between(number, least, most):
        raise BadModel(f"{word} is a whole number from {least} to {most}")


def grown(first, steps):
    # For each kind of deeds there is a function that tells of a state the pair of the state to
    # which such a deed leads and its cost, or None if there is no such deed.
    states = [first]
    numbers = {first: 0}
    deeds = []
    at = 0
    while at < len(states):
        for kind, step in enumerate(steps):
            led = step(states[at])
            if led is not None:
                if led[0] not in numbers:
                    numbers[led[0]] = len(states)
                    states.append(led[0])
                deeds.append((at, kind, numbers[led[0]], led[1]))
        at += 1
    return ((len(states), len(steps), deeds), states)


def shelf_put(state, most, grow):
    items = state[0]
    if items >= most:
        return None
    if items == state[1]:
        return ((items + 1, state[1] * grow), 1 + items)
    return ((items + 1, state[1]), 1)


def shelf_take(state, grow, shrink):
    if state[0] == 0:
        return None
    left = state[0] - 1
    places = state[1]
    if shrink != 0 and places > 1 and left * shrink <= places:
        return ((left, places // grow), 1 + left)
    return ((left, places), 1)


def shelf(most, grow, shrink):
    look_measure("most", most, 1, MOST_ITEMS)
    look_measure("grow", grow, LEAST_GROW, MOST_GROW)
    if not is_between(shrink, 0, 0):
        look_measure("shrink, where it is not 0,", shrink, grow, MOST_SHRINK)

    def put(state):
        return shelf_put(state, most, grow)

    def take(state):
        return shelf_take(state, grow, shrink)

    return grown((0, 1), [put, take])


def turned_bits(one, other):
    apart = one ^ other
    turned = 0
    while apart > 0:
        turned += apart % 2
        apart = apart // 2
    return turned


def count_up(number, bits):
    if (number + 1).bit_length() > bits:
        return None
    return (number + 1, turned_bits(number, number + 1))


def count_down(number, down):
    if not down or number == 0:
        return None
    return (number - 1, turned_bits(number, number - 1))


def counter(bits, down):
    look_measure("bits", bits, 1, MOST_BITS)
    if not isinstance(down, bool):
        raise BadModel("whether the counter goes down too is True or False")

    def go_up(number):
        return count_up(number, bits)

    def go_down(number):
        return count_down(number, down)

    return grown(0, [go_up, go_down])


def queue_put(state, most):
    if state[0] + state[1] >= most:
        return None
    return ((state[0] + 1, state[1]), 1)


def queue_take(state):
    behind = state[0]
    ahead = state[1]
    if ahead > 0:
        return ((behind, ahead - 1), 1)
    if behind > 0:
        return ((0, behind - 1), 2 * behind + 1)
    return None


def queue(most):
    look_measure("most", most, 1, MOST_QUEUE)

    def put(state):
        return queue_put(state, most)

    return grown((0, 0), [put, queue_take])
