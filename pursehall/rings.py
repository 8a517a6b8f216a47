"""Rings of deeds: those that gain without end, and the ways to them."""

from pursehall.machines import came_by, reached


def gain_of(gains, row):
    return sum([gains[number] for number in row])


def way_to(machine, place):
    # Built from its end, as each place only knows by which deed it was come to.
    came = came_by(machine)
    way = []
    while came[place] is not None:
        way.append(came[place])
        place = machine[2][came[place]][0]
    way.reverse()
    return way


def row_onward(machine, onward, place):
    row = []
    while onward[place] is not None:
        row.append(onward[place])
        place = machine[2][onward[place]][2]
    return row


def ring_onward(machine, onward, place):
    # So many steps as there are places lead into the ring, wherever they begin.
    for step in range(machine[0]):
        place = machine[2][onward[place]][2]
    ring = [onward[place]]
    at = machine[2][onward[place]][2]
    while at != place:
        ring.append(onward[at])
        at = machine[2][onward[at]][2]
    return ring


def raise_once(machine, gains, numbers, most, onward):
    raised = None
    for number in numbers:
        deed = machine[2][number]
        gain = gains[number] + most[deed[2]]
        if gain > most[deed[0]]:
            most[deed[0]] = gain
            onward[deed[0]] = number
            raised = deed[0]
    return raised


def most_gains(machine, gains):
    # The triple of: for each place the most that deeds from there on gain together; the
    # first of such deeds; and None. A row without a ring has fewer deeds than there are
    # places, so if the last round still raises a place, a ring gains without end: then the
    # third is a place from which the first deeds lead into such a ring.
    come_to = reached(machine)
    numbers = [number for number, deed in enumerate(machine[2]) if come_to[deed[0]]]
    most = [0 for place in range(machine[0])]
    onward = [None for place in range(machine[0])]
    raised = 0
    rounds = 0
    while raised is not None and rounds < machine[0]:
        raised = raise_once(machine, gains, numbers, most, onward)
        rounds += 1
    return (most, onward, raised)
