"""What several tests need: made machines, and plain second answers to hold the program against."""

import itertools
import random

FAR = 10 ** 15 - 1

# Place 0 fills by deeds of kind 0 up to place 3; a deed of kind 1 empties it at once, and
# costs the more the fuller it is. Place 4 leads on, but is never come to.
FILLING = (5, 2, [
    (0, 0, 1, 1),
    (1, 0, 2, 1),
    (1, 1, 0, 3),
    (2, 0, 3, 1),
    (2, 1, 0, 5),
    (3, 1, 0, 7),
    (4, 0, 1, 900),
])


def made_machine(seed, places, kinds, deeds, most_cost):
    chance = random.Random(seed)
    found = set()
    # There may be fewer deeds of that size than asked for.
    deeds = min(deeds, places * kinds * places * (most_cost + 1))
    while len(found) < deeds:
        found.add((chance.randrange(places), chance.randrange(kinds),
                   chance.randrange(places), chance.randint(0, most_cost)))
    return (places, kinds, sorted(found))


def made_row(seed, machine, most):
    chance = random.Random(seed)
    row = []
    place = 0
    while len(row) < most:
        numbers = [n for n, deed in enumerate(machine[2]) if deed[0] == place]
        if not numbers:
            break
        row.append(chance.choice(numbers))
        place = machine[2][row[-1]][2]
    return row


def small_machines(count):
    for seed in range(count):
        chance = random.Random(seed)
        places = chance.randint(1, 4)
        kinds = chance.randint(1, 2)
        machine = made_machine(seed, places, kinds, chance.randint(0, 7), 3)
        yield machine, [chance.randint(0, 3) for kind in range(kinds)]


def places_come_to(machine):
    come = {0}
    while True:
        more = come | {deed[2] for deed in machine[2] if deed[0] in come}
        if more == come:
            return come
        come = more


def purse_pays(machine, prices, purse):
    come = places_come_to(machine)
    duties = [purse[p] + prices[k] >= cost + purse[q] for p, k, q, cost in machine[2] if p in come]
    return purse[0] == 0 and min(purse) >= 0 and all(duties)


def paying_purses(machine, prices, most):
    # A least purse has at no place more than the deeds of a row without a ring can cost, so
    # where none up to that pays, none does.
    for rest in itertools.product(range(most + 1), repeat=machine[0] - 1):
        if purse_pays(machine, prices, [0, *rest]):
            yield [0, *rest]
