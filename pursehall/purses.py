"""Purses: whether prices pay for every deed, with the least purse or what breaks them."""

from pursehall.errors import BadPrices
from pursehall.exact import is_between
from pursehall.machines import gone, look_machine, reached
from pursehall.rings import gain_of, most_gains, ring_onward, row_onward, way_to

MOST_PRICE = 1000


def look_prices(machine, prices):
    look_machine(machine)
    if not isinstance(prices, list) or len(prices) != machine[1]:
        raise BadPrices("prices are a list of one for each kind")
    for kind, price in enumerate(prices):
        if not is_between(price, 0, MOST_PRICE):
            raise BadPrices(f"the price of kind {kind} is not from 0 to {MOST_PRICE}")


def costs_over(machine, prices):
    # For each deed what it costs over its price, less than nothing if the price is more.
    return [deed[3] - prices[deed[1]] for deed in machine[2]]


def pays(machine, prices, purse):
    look_prices(machine, prices)
    if len(purse) != machine[0] or purse[0] != 0 or min(purse) < 0:
        return False
    come_to = reached(machine)
    for deed in machine[2]:
        if come_to[deed[0]] and purse[deed[0]] + prices[deed[1]] < deed[3] + purse[deed[2]]:
            return False
    return True


def breaks(machine, prices, way, ring, many):
    look_prices(machine, prices)
    places = gone(machine, way + ring)
    if many < 0 or places[len(way)] != places[-1]:
        return False
    over = costs_over(machine, prices)
    return gain_of(over, way) + many * gain_of(over, ring) > 0


def broken_by_ring(machine, over, ring):
    way = way_to(machine, machine[2][ring[0]][0])
    # The fewest times that outdo what the way leaves over; none if it leaves nothing.
    many = max(0, -gain_of(over, way) // gain_of(over, ring) + 1)
    return ("row", way, ring, many)


def least_purse(machine, prices):
    look_prices(machine, prices)
    over = costs_over(machine, prices)
    found = most_gains(machine, over)
    purse = found[0]
    onward = found[1]
    raised = found[2]
    if raised is not None:
        return broken_by_ring(machine, over, ring_onward(machine, onward, raised))
    # What place 0 would need is what some row from there costs over its prices.
    if purse[0] > 0:
        return ("row", row_onward(machine, onward, 0), [], 0)
    return ("purse", purse)
