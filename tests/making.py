"""What several tests need: made machines, and plain second answers to hold the program against."""

import itertools
import math
import random
from fractions import Fraction

FAR = 10 ** 15 - 1

# Place 0 fills by deeds of kind 0 up to place 3; a deed of kind 1 empties it at once, and
# costs the more the fuller it is. Place 4 leads on, but is never come to.
FILLING = (5, 2, [
    (0, 0, 1, 1),
    (1, 0, 2, 1),
    (1, 1, 0, 3),
    (2, 0, 3, 1),
    (2, 1, 0, 5),
    (3, 1, 0, 7),
    (4, 0, 1, 900),
])


def made_machine(seed, places, kinds, deeds, most_cost):
    chance = random.Random(seed)
    found = set()
    # There may be fewer deeds of that size than asked for.
    deeds = min(deeds, places * kinds * places * (most_cost + 1))
    while len(found) < deeds:
        found.add((chance.randrange(places), chance.randrange(kinds),
                   chance.randrange(places), chance.randint(0, most_cost)))
    return (places, kinds, sorted(found))


def made_row(seed, machine, most):
    chance = random.Random(seed)
    row = []
    place = 0
    while len(row) < most:
        numbers = [n for n, deed in enumerate(machine[2]) if deed[0] == place]
        if not numbers:
            break
        row.append(chance.choice(numbers))
        place = machine[2][row[-1]][2]
    return row


def small_machines(count):
    for seed in range(count):
        chance = random.Random(seed)
        places = chance.randint(1, 4)
        kinds = chance.randint(1, 2)
        machine = made_machine(seed, places, kinds, chance.randint(0, 7), 3)
        yield machine, [chance.randint(0, 3) for kind in range(kinds)]


def places_come_to(machine):
    come = {0}
    while True:
        more = come | {deed[2] for deed in machine[2] if deed[0] in come}
        if more == come:
            return come
        come = more


def purse_pays(machine, prices, purse):
    come = places_come_to(machine)
    duties = [purse[p] + prices[k] >= cost + purse[q] for p, k, q, cost in machine[2] if p in come]
    return purse[0] == 0 and min(purse) >= 0 and all(duties)


def paying_purses(machine, prices, most):
    # A least purse has at no place more than the deeds of a row without a ring can cost, so
    # where none up to that pays, none does.
    for rest in itertools.product(range(most + 1), repeat=machine[0] - 1):
        if purse_pays(machine, prices, [0, *rest]):
            yield [0, *rest]


def rings_of(machine):
    # Every ring that comes to no place twice and that a row can come to.
    come = places_come_to(machine)

    def go_on(ring):
        first, last = machine[2][ring[0]][0], machine[2][ring[-1]][2]
        if first == last:
            yield ring
        elif last not in [machine[2][number][0] for number in ring]:
            for number, deed in enumerate(machine[2]):
                if deed[0] == last:
                    yield from go_on(ring + [number])

    for number, deed in enumerate(machine[2]):
        if deed[0] in come:
            yield from go_on([number])


def most_of_rings(machine):
    return max([Fraction(sum(machine[2][n][3] for n in ring), len(ring)) for ring in rings_of(machine)], default=0)


def as_pair(number):
    number = Fraction(number)
    return (number.numerator, number.denominator)


def as_number(pair):
    return Fraction(pair[0], pair[1])


# A queue of two stacks, (behind, ahead): one is put upon behind; one is taken from ahead; all
# are moved to ahead, where there is none, and then one is taken.
QUEUE_LINES = (2, [
    ([], [(1, 0, 1), (0, 1, 0)], (0, 0, 1)),
    ([(0, 1, -1)], [(1, 0, 0), (0, 1, -1)], (0, 0, 1)),
    ([(0, -1, 0), (1, 0, -1)], [(0, 0, 0), (1, 0, -1)], (2, 0, 1)),
])
QUEUE_PRICES = [3, 1, 1]
QUEUE_PURSE = (2, 0, 0)


def worth(form, point):
    return sum(number * at for number, at in zip(form, point)) + form[-1]


def behind_deed(deed, point):
    return [worth(change, point) for change in deed[1]]


def duties_by_hand(lines, prices, purse):
    # Pairs of the guards and what must be from nought on, as a function of the point.
    duties = []
    for deed, price in zip(lines[1], prices):
        duties.append((deed[0], lambda point, deed=deed, price=price:
                       worth(purse, point) + price - worth(deed[2], point) - worth(purse, behind_deed(deed, point))))
        for change in deed[1]:
            duties.append((deed[0], lambda point, change=change: worth(change, point)))
    duties.append(([], lambda point: worth(purse, point)))
    return duties


def form_by_hand(many, ask):
    # The form of a function that is one, from what it is at nought and one step off it.
    last = ask([0] * many)
    return [ask([int(at == other) for other in range(many)]) - last for at in range(many)] + [last]


def is_paper(many, duty, paper):
    word, shares = paper
    form = form_by_hand(many, duty[1])
    bounds = {"line": form, "none": [0] * many + [-1]}[word]
    shares = [as_number(share) for share in shares]
    return (len(shares) == len(duty[0]) and min(shares, default=0) >= 0
            and all(bounds[at] >= sum(share * guard[at] for share, guard in zip(shares, duty[0]))
                    for at in range(many + 1)))


def is_failing_point(many, duty, point):
    point = [as_number(number) for number in point]
    return (len(point) == many and min(point) >= 0
            and all(worth(guard, point) >= 0 for guard in duty[0]) and duty[1](point) < 0)


def can_be(many, wanted):
    # Whether some point keeps them all: pairs of a form, which is to be from nought on there, and
    # whether it is to be above nought. The numbers are taken out one after the other, by putting
    # each two forms together of which one has it with plus and one with minus (Fourier, Motzkin).
    for at in range(many):
        plus = [(form, above) for form, above in wanted if form[at] > 0]
        minus = [(form, above) for form, above in wanted if form[at] < 0]
        found = {(form, above) for form, above in wanted if form[at] == 0}
        for one, above in plus:
            for other, above_too in minus:
                both = [one[at] * y - other[at] * x for x, y in zip(one, other)]
                divisor = math.gcd(*both) or 1
                found.add((tuple(number // divisor for number in both), above or above_too))
        wanted = found
    return all(form[-1] > 0 or form[-1] == 0 and not above for form, above in wanted)


def can_fail(many, duty):
    wanted = [(tuple(guard), False) for guard in duty[0]]
    wanted += [(tuple(int(at == other) for other in range(many + 1)), False) for at in range(many)]
    form = form_by_hand(many, duty[1])
    return can_be(many, set(wanted + [(tuple(-number for number in form), True)]))


def made_lines(seed, most_numbers, most):
    # Now and then with duties that all hold: then forms have seldom numbers below nought.
    chance = random.Random(seed)
    many = chance.randint(1, most_numbers)
    low = chance.choice([-most, -(most // 3), 0, 0])

    def form(least, largest):
        return tuple(chance.randint(least, largest) for at in range(many + 1))

    deeds = [([form(-most, most) for guard in range(chance.randint(0, 4))],
              [form(low, most) for change in range(many)], form(-most, -low))
             for deed in range(chance.randint(1, 3))]
    prices = [chance.randint(low, most) for deed in deeds]
    return (many, deeds), prices, form(0, chance.choice([0, 1, most]))
