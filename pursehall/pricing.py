"""The least price for each deed, of whatever kind, that pays in the long run."""

from pursehall.exact import NOUGHT, are_from_nought, fraction, is_between, is_less, plus
from pursehall.machines import look_machine, reached
from pursehall.rings import most_gains


def next_rows(machine, rows):
    # From the dearest rows to each place, those with one deed more.
    dearest = [None for place in range(machine[0])]
    for number, deed in enumerate(machine[2]):
        ahead = rows[deed[0]]
        if ahead is not None:
            cost = ahead[0] + deed[3]
            if dearest[deed[2]] is None or cost > dearest[deed[2]][0]:
                dearest[deed[2]] = (cost, number)
    return dearest


def dearest_rows(machine):
    # For each count of deeds up to that of the places, and then for each place: the pair of
    # the most that a row of so many deeds to it costs, and its last deed; None if there is no row.
    begun = [None for place in range(machine[0])]
    begun[0] = (0, None)
    dearest = [begun]
    for step in range(machine[0]):
        dearest.append(next_rows(machine, dearest[-1]))
    return dearest


def least_rise(dearest, place):
    # The least, over all shorter rows to the place, that the longest one costs over them for
    # each deed that it has over them; None if there is no longest one.
    many = len(dearest) - 1
    if dearest[many][place] is None:
        return None
    least = None
    for step in range(many):
        if dearest[step][place] is not None:
            rise = (dearest[many][place][0] - dearest[step][place][0], many - step)
            if least is None or is_less(rise, least):
                least = rise
    return least


def place_of_most(dearest):
    # The most of these rises is the most that a ring costs for each deed (Karp's theorem).
    best = None
    most = None
    for place in range(len(dearest[0])):
        rise = least_rise(dearest, place)
        if rise is not None and (most is None or is_less(most, rise)):
            best = place
            most = rise
    return best


def ring_back(machine, dearest, place):
    # The longest row to the place has more deeds than it can have without a ring. It could not
    # rise so much if a ring in it did not cost the most for each deed, so any ring in it will do.
    passed = {place: 0}
    back = []
    step = len(dearest) - 1
    while True:
        back.append(dearest[step][place][1])
        place = machine[2][back[-1]][0]
        if place in passed:
            ring = back[passed[place]:]
            ring.reverse()
            return ring
        passed[place] = len(back)
        step -= 1


def dearest_ring(machine):
    dearest = dearest_rows(machine)
    place = place_of_most(dearest)
    if place is None:
        return []
    return ring_back(machine, dearest, place)


def cost_together(machine, ring):
    return sum([machine[2][number][3] for number in ring])


def purse_for(machine, price):
    # Counted in parts so small that the price is a whole number of them.
    gains = [deed[3] * price[1] - price[0] for deed in machine[2]]
    return [fraction(parts, price[1]) for parts in most_gains(machine, gains)[0]]


def least_price(machine):
    look_machine(machine)
    ring = dearest_ring(machine)
    price = NOUGHT
    if len(ring) > 0:
        price = fraction(cost_together(machine, ring), len(ring))
    return (price, ring, purse_for(machine, price))


def is_paid(machine, come_to, price, purse):
    if len(purse) != machine[0] or not are_from_nought(purse):
        return False
    for deed in machine[2]:
        if come_to[deed[0]]:
            need = plus(purse[deed[2]], (deed[3], 1))
            if is_less(plus(purse[deed[0]], price), need):
                return False
    return True


def leads_round(machine, come_to, ring):
    deeds = machine[2]
    for number in ring:
        if not is_between(number, 0, len(deeds) - 1):
            return False
    place = deeds[ring[-1]][2]
    if not come_to[place]:
        return False
    for number in ring:
        if deeds[number][0] != place:
            return False
        place = deeds[number][2]
    return True


def ring_shows(machine, come_to, price, ring):
    if len(ring) == 0:
        return price == NOUGHT
    if not leads_round(machine, come_to, ring):
        return False
    return price == fraction(cost_together(machine, ring), len(ring))


def shows_price(machine, price, ring, purse):
    # A price that is what a ring costs for each deed, or 0, is a fraction from nought on.
    come_to = reached(machine)
    return ring_shows(machine, come_to, price, ring) and is_paid(machine, come_to, price, purse)
