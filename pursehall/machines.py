"""Machines: their places and deeds, their rows of deeds, and two of them side by side."""

from pursehall.errors import BadMachine, BadRow
from pursehall.exact import is_between

MOST_PLACES = 200
MOST_KINDS = 8
MOST_DEEDS = 600
MOST_COST = 1000


def is_deed(machine, deed):
    if not isinstance(deed, tuple) or len(deed) != 4:
        return False
    last_place = machine[0] - 1
    if not is_between(deed[0], 0, last_place) or not is_between(deed[2], 0, last_place):
        return False
    return is_between(deed[1], 0, machine[1] - 1) and is_between(deed[3], 0, MOST_COST)


def look_deeds(machine):
    deeds = machine[2]
    if not isinstance(deeds, list) or len(deeds) > MOST_DEEDS:
        raise BadMachine(f"the deeds are a list of {MOST_DEEDS} at most")
    for number, deed in enumerate(deeds):
        if not is_deed(machine, deed):
            raise BadMachine(f"number {number} is no deed of such a machine")
    for number in range(1, len(deeds)):
        if deeds[number] <= deeds[number - 1]:
            raise BadMachine(f"deed {number} does not rise above the one ahead of it")


def look_machine(machine):
    if not isinstance(machine, tuple) or len(machine) != 3:
        raise BadMachine("a machine is a triple of places, kinds and deeds")
    if not is_between(machine[0], 1, MOST_PLACES):
        raise BadMachine(f"a machine has 1 to {MOST_PLACES} places")
    if not is_between(machine[1], 1, MOST_KINDS):
        raise BadMachine(f"a machine has 1 to {MOST_KINDS} kinds of deeds")
    look_deeds(machine)


def gone(machine, row):
    look_machine(machine)
    if not isinstance(row, list):
        raise BadRow("a row is a list of the numbers of deeds")
    deeds = machine[2]
    places = [0]
    for number in row:
        if not is_between(number, 0, len(deeds) - 1):
            raise BadRow("the row has a number that no deed has")
        if deeds[number][0] != places[-1]:
            raise BadRow(f"deed {number} does not begin where the row has come to")
        places.append(deeds[number][2])
    return places


def cost_of(machine, row):
    # Going through it refuses what is no row.
    gone(machine, row)
    return sum([machine[2][number][3] for number in row])


def deeds_from(machine):
    numbers = [[] for place in range(machine[0])]
    for number, deed in enumerate(machine[2]):
        numbers[deed[0]].append(number)
    return numbers


def came_by(machine):
    # For each place the last deed of a shortest row to it. None where no row comes to it,
    # and at place 0, where the empty row is.
    onward = deeds_from(machine)
    came = [None for place in range(machine[0])]
    places = [0]
    at = 0
    while at < len(places):
        for number in onward[places[at]]:
            place = machine[2][number][2]
            if place != 0 and came[place] is None:
                came[place] = number
                places.append(place)
        at += 1
    return came


def reached(machine):
    look_machine(machine)
    return [place == 0 or number is not None for place, number in enumerate(came_by(machine))]


def deeds_of_one(one, wide):
    # The other machine stays at whichever of its places it is.
    deeds = []
    for deed in one[2]:
        for still in range(wide):
            deeds.append((deed[0] * wide + still, deed[1], deed[2] * wide + still, deed[3]))
    return deeds


def deeds_of_other(one, other):
    # The one machine stays at whichever of its places it is.
    deeds = []
    for deed in other[2]:
        for still in range(one[0]):
            start = still * other[0]
            deeds.append((start + deed[0], one[1] + deed[1], start + deed[2], deed[3]))
    return deeds


def beside(one, other):
    look_machine(one)
    look_machine(other)
    deeds = sorted(deeds_of_one(one, other[0]) + deeds_of_other(one, other))
    machine = (one[0] * other[0], one[1] + other[1], deeds)
    look_machine(machine)
    return machine
