import copy
import random
import time
import unittest
from fractions import Fraction

from making import FAR, FILLING, as_number, as_pair, made_machine, most_of_rings, places_come_to, small_machines
from pursehall.errors import BadMachine
from pursehall.machines import reached
from pursehall.models import counter, queue, shelf
from pursehall.pricing import least_price, shows_price

BAD = (1, 1, [(0, 0, 0, 1001)])
NOUGHT = (0, 1)
LOOP = (1, 1, [(0, 0, 0, 7)])
NO_RING = (3, 2, [(0, 0, 1, 5), (0, 1, 2, 1), (1, 0, 2, 9)])
# A ring of three deeds, that cost 7 together.
ROUND = (3, 1, [(0, 0, 1, 1), (1, 0, 2, 2), (2, 0, 0, 4)])
ROUND_PRICE = (7, 3)
ROUND_PURSE = [NOUGHT, (4, 3), (5, 3)]
# Place 1 has a ring of cost 3, to which place 0 leads; places 2 and 3 are not come to.
APART = (4, 1, [(0, 0, 1, 5), (1, 0, 1, 3), (2, 0, 1, 900), (2, 0, 2, 800), (3, 0, 2, 1), (3, 0, 3, 1000)])
APART_PURSE = [(2, 1), NOUGHT, NOUGHT, NOUGHT]


def ring_is_so(machine, price, ring):
    deeds = [machine[2][number] for number in ring]
    return (all(deed[2] == following[0] for deed, following in zip(deeds, deeds[1:] + deeds[:1]))
            and deeds[0][0] in places_come_to(machine)
            and sum(deed[3] for deed in deeds) == as_number(price) * len(deeds))


def purse_is_so(machine, price, purse):
    come = places_come_to(machine)
    has = [as_number(pair) for pair in purse]
    return len(has) == machine[0] and min(has) >= 0 and all(
        has[p] + as_number(price) >= cost + has[q] for p, k, q, cost in machine[2] if p in come)


class LeastPrice(unittest.TestCase):  # [3.1]
    def assert_told(self, machine, price):
        told = least_price(machine)
        self.assertIsInstance(told, tuple)
        self.assertEqual(len(told), 3)
        self.assertEqual(told[0], price)
        self.assertIsInstance(told[1], list)
        self.assertIsInstance(told[2], list)
        for pair in [told[0]] + told[2]:
            self.assertIsInstance(pair, tuple)
            self.assertEqual(pair, as_pair(as_number(pair)))
        self.assertTrue(purse_is_so(machine, told[0], told[2]))
        if told[1]:
            self.assertTrue(ring_is_so(machine, told[0], told[1]))
        else:
            self.assertEqual(told[0], NOUGHT)
        come_to = reached(machine)
        self.assertEqual([told[2][place] for place, come in enumerate(come_to) if not come],
                         [NOUGHT] * come_to.count(False))
        self.assertIs(shows_price(machine, told[0], told[1], told[2]), True)
        return told

    def test_no_ring_at_all(self):
        self.assertEqual(least_price((1, 1, [])), (NOUGHT, [], [NOUGHT]))
        self.assertEqual(self.assert_told(NO_RING, NOUGHT)[1], [])
        self.assertEqual(self.assert_told((200, 8, []), NOUGHT)[1], [])
        line = (200, 1, [(place, 0, place + 1, 1000) for place in range(199)])
        told = self.assert_told(line, NOUGHT)
        self.assertEqual((told[1], told[2][0] >= (199000, 1)), ([], True))

    def test_rings_that_cost_nothing(self):
        self.assert_told((1, 1, [(0, 0, 0, 0)]), NOUGHT)
        self.assert_told((2, 1, [(0, 0, 1, 0), (1, 0, 0, 0)]), NOUGHT)
        self.assert_told((3, 1, [(0, 0, 1, 8), (1, 0, 2, 0), (2, 0, 1, 0)]), NOUGHT)

    def test_one_ring(self):
        self.assertEqual(self.assert_told(LOOP, (7, 1)), ((7, 1), [0], [NOUGHT]))
        told = self.assert_told(ROUND, ROUND_PRICE)
        self.assertEqual(sorted(told[1]), [0, 1, 2])
        self.assert_told((2, 1, [(0, 0, 1, 1), (1, 0, 0, 2)]), (3, 2))
        self.assert_told((2, 1, [(0, 0, 1, 1), (1, 0, 0, 3)]), (2, 1))

    def test_a_way_to_the_ring_that_costs_more_or_less(self):
        for cost in (0, 3, 1000):
            machine = (3, 1, [(0, 0, 1, cost), (1, 0, 2, 3), (2, 0, 1, 4)])
            self.assertEqual(sorted(self.assert_told(machine, (7, 2))[1]), [1, 2])

    def test_the_purse_may_have_something_at_place_0(self):
        told = self.assert_told((2, 1, [(0, 0, 1, 9), (1, 0, 1, 5)]), (5, 1))
        self.assertGreaterEqual(as_number(told[2][0]) - as_number(told[2][1]), 4)

    def test_rings_of_like_cost_for_each_deed(self):
        self.assert_told((3, 1, [(0, 0, 1, 2), (1, 0, 0, 3), (1, 0, 2, 3), (2, 0, 1, 2)]), (5, 2))
        self.assert_told((2, 2, [(0, 0, 0, 4), (0, 1, 1, 3), (1, 0, 0, 5), (1, 1, 1, 4)]), (4, 1))

    def test_rings_of_unlike_cost_for_each_deed(self):
        self.assert_told((2, 1, [(0, 0, 0, 2), (0, 0, 1, 1), (1, 0, 0, 4), (1, 0, 1, 2)]), (5, 2))
        self.assert_told((2, 1, [(0, 0, 0, 3), (0, 0, 1, 1), (1, 0, 0, 4), (1, 0, 1, 2)]), (3, 1))
        # The ring that costs most of all costs less for each deed.
        self.assert_told((4, 1, [(0, 0, 0, 3), (0, 0, 1, 2), (1, 0, 2, 3), (2, 0, 3, 3), (3, 0, 0, 3)]), (3, 1))
        # Two deeds that differ in nothing but their cost.
        self.assert_told((2, 1, [(0, 0, 1, 1), (0, 0, 1, 6), (1, 0, 0, 1), (1, 0, 0, 3)]), (9, 2))

    def test_a_ring_that_can_not_be_left_and_one_ahead_of_it(self):
        self.assert_told((2, 1, [(0, 0, 0, 9), (0, 0, 1, 0), (1, 0, 1, 4)]), (9, 1))
        self.assert_told((2, 1, [(0, 0, 0, 4), (0, 0, 1, 0), (1, 0, 1, 9)]), (9, 1))

    def test_whatever_the_kind(self):
        self.assert_told((2, 8, [(0, 0, 0, 1), (0, 3, 1, 5), (1, 7, 0, 6)]), (11, 2))

    def test_rings_at_places_that_are_not_come_to(self):
        self.assertEqual(self.assert_told(APART, (3, 1))[1], [1])
        self.assertEqual(self.assert_told((2, 1, [(1, 0, 1, 1000)]), NOUGHT)[1], [])
        self.assertEqual(self.assert_told((3, 1, [(1, 0, 0, 9), (1, 0, 2, 9), (2, 0, 1, 9)]), NOUGHT)[1], [])

    def test_small_machines_against_every_ring(self):
        for machine, prices in small_machines(400):
            self.assert_told(machine, as_pair(most_of_rings(machine)))
        for seed in range(400):
            chance = random.Random(seed)
            machine = made_machine(seed, chance.randint(1, 6), 2, chance.randint(0, 12), chance.choice([2, 10, 1000]))
            self.assert_told(machine, as_pair(most_of_rings(machine)))

    def test_models(self):
        # An item is put, moved and taken, for 4 by two deeds.
        self.assert_told(queue(15)[0], (2, 1))
        self.assert_told(counter(6, False)[0], NOUGHT)
        # Up to 32 and down again turns all six bits each time.
        self.assert_told(counter(6, True)[0], (6, 1))
        # A shelf that never shrinks does not grow again.
        self.assert_told(shelf(30, 2, 0)[0], (1, 1))
        # From 16 items to 17 and back again all 16 are moved each time.
        self.assert_told(shelf(30, 2, 2)[0], (17, 1))
        self.assert_told(shelf(8, 2, 4)[0], as_pair(most_of_rings(shelf(8, 2, 4)[0])))

    def test_large_machines_answer_in_seconds(self):
        begin = time.monotonic()
        for seed in range(10):
            machine = made_machine(seed, 200, 8, 600, 1000)
            self.assert_told(machine, least_price(machine)[0])
        # Each place has a ring of its own, and the farther place has the one that costs less.
        rings = [(place, 0, place + 1, 0) for place in range(199)] + [(place, 1, place, 1000 - place)
                                                                      for place in range(200)]
        rings += [(place, 2, 0, place) for place in range(199)] + [(199, 2, 0, 200), (199, 3, 0, 999)]
        self.assertEqual(len(rings), 600)
        self.assert_told((200, 8, sorted(rings)), (1000, 1))
        long = [(place, 0, (place + 1) % 200, 1000 - place % 3) for place in range(200)]
        more = [(place, kind, place + 1, 990 + kind) for place in range(199) for kind in (1, 2)]
        self.assertEqual(len(long + more), 598)
        self.assert_told((200, 8, sorted(long + more)), as_pair(Fraction(sum(deed[3] for deed in long), 200)))
        self.assertLess(time.monotonic() - begin, 30)

    def test_no_machine(self):
        for machine in (BAD, (0, 1, []), (1, 1, ()), None):
            with self.assertRaises(BadMachine):
                least_price(machine)


class ShowsPrice(unittest.TestCase):  # [3.2]
    def assert_shown(self, machine, price, ring, purse):
        self.assertIs(shows_price(machine, price, ring, purse), True)

    def assert_not(self, machine, price, ring, purse):
        self.assertIs(shows_price(machine, price, ring, purse), False)

    def test_one_ring(self):
        for ring in ([0, 1, 2], [1, 2, 0], [2, 0, 1], [0, 1, 2, 0, 1, 2]):
            self.assert_shown(ROUND, ROUND_PRICE, ring, ROUND_PURSE)
        for more in (1, 5, FAR):
            self.assert_shown(ROUND, ROUND_PRICE, [0, 1, 2], [(a + more * b, b) for a, b in ROUND_PURSE])

    def test_the_price_changed(self):
        for price in ((7, 1), (7, 2), (7, 4), (8, 3), (2, 1), NOUGHT, (-7, 3), (FAR, 1), (-FAR, 1), (1, FAR)):
            self.assert_not(ROUND, price, [0, 1, 2], ROUND_PURSE)
        self.assert_not(LOOP, (8, 1), [0], [NOUGHT])
        self.assert_not(LOOP, (6, 1), [0], [NOUGHT])

    def test_a_price_that_pays_but_is_not_the_rings(self):
        machine = (2, 1, [(0, 0, 0, 3), (0, 0, 1, 1), (1, 0, 1, 5)])
        self.assert_shown(machine, (5, 1), [2], [NOUGHT, NOUGHT])
        self.assert_not(machine, (5, 1), [0], [NOUGHT, NOUGHT])
        self.assert_not(machine, (3, 1), [0], [NOUGHT, NOUGHT])
        self.assert_not(machine, (6, 1), [2], [NOUGHT, NOUGHT])

    def test_a_ring_that_does_not_lead_round(self):
        for ring in ([0], [0, 1], [1, 2], [0, 2, 1], [2, 1, 0], [0, 1, 2, 0], [0, 0, 1, 2], [1, 1, 1]):
            self.assert_not(ROUND, ROUND_PRICE, ring, ROUND_PURSE)
        # Its deeds cost so much for each, but do not go on.
        even = (2, 1, [(0, 0, 0, 2), (0, 0, 1, 2), (1, 0, 0, 2)])
        flat = [NOUGHT, NOUGHT]
        for ring in ([0], [1, 2], [2, 1], [0, 1, 2], [2, 0, 1], [0, 0]):
            self.assert_shown(even, (2, 1), ring, flat)
        for ring in ([1], [2], [0, 1], [2, 0], [1, 1], [0, 2], [1, 2, 1], [1, 0, 2]):
            self.assert_not(even, (2, 1), ring, flat)

    def test_numbers_that_no_deed_has(self):
        for number in (-1, -3, 3, 4, FAR, -FAR):
            for ring in ([number], [number, 1, 2], [0, number, 2], [0, 1, number]):
                self.assert_not(ROUND, ROUND_PRICE, ring, ROUND_PURSE)
        self.assert_not(LOOP, (7, 1), [-1], [NOUGHT])
        self.assert_not((1, 1, []), NOUGHT, [0], [NOUGHT])

    def test_a_ring_that_no_row_comes_to(self):
        self.assert_shown(APART, (3, 1), [1], APART_PURSE)
        machine = (2, 1, [(0, 0, 0, 3), (1, 0, 1, 3)])
        self.assert_shown(machine, (3, 1), [0], [NOUGHT, NOUGHT])
        self.assert_not(machine, (3, 1), [1], [NOUGHT, NOUGHT])
        self.assert_not((2, 1, [(1, 0, 1, 0)]), NOUGHT, [0], [NOUGHT, NOUGHT])
        self.assert_not((2, 1, [(1, 0, 1, 3)]), (3, 1), [0], [NOUGHT, NOUGHT])

    def test_no_ring(self):
        purse = [(14, 1), (9, 1), NOUGHT]
        self.assert_shown(NO_RING, NOUGHT, [], purse)
        for price in ((1, 1), (1, FAR), (FAR, 1), (-1, 1)):
            self.assert_not(NO_RING, price, [], purse)
        self.assert_not(NO_RING, NOUGHT, [], [(13, 1), (9, 1), NOUGHT])
        self.assert_not(LOOP, (7, 1), [], [NOUGHT])
        self.assert_not(LOOP, NOUGHT, [], [NOUGHT])

    def test_a_ring_that_costs_nothing(self):
        machine = (1, 1, [(0, 0, 0, 0)])
        for ring in ([], [0], [0, 0]):
            self.assert_shown(machine, NOUGHT, ring, [NOUGHT])
            self.assert_not(machine, (1, 1), ring, [NOUGHT])

    def test_numbers_of_the_purse_changed(self):
        # In a ring that just pays each deed takes all that there is, so no single number may differ.
        for place in range(3):
            for more in (Fraction(1, 3), Fraction(-1, 3), Fraction(1, FAR), Fraction(-1, FAR), FAR, -FAR):
                purse = list(ROUND_PURSE)
                purse[place] = as_pair(as_number(purse[place]) + more)
                self.assert_not(ROUND, ROUND_PRICE, [0, 1, 2], purse)

    def test_a_purse_below_nought(self):
        below = [as_pair(as_number(pair) - Fraction(1, 3)) for pair in ROUND_PURSE]
        self.assert_not(ROUND, ROUND_PRICE, [0, 1, 2], below)
        self.assert_not(LOOP, (7, 1), [0], [(-1, 1)])
        self.assert_not(LOOP, (7, 1), [0], [(-1, FAR)])
        # Nowhere, so at places that are not come to neither.
        for place in (2, 3):
            purse = list(APART_PURSE)
            purse[place] = (-1, 2)
            self.assert_not(APART, (3, 1), [1], purse)

    def test_a_price_below_nought(self):
        self.assert_not((1, 1, []), (-1, 1), [], [NOUGHT])
        self.assert_not((2, 1, [(0, 0, 1, 0)]), (-1, 1), [], [(1, 1), NOUGHT])

    def test_a_purse_of_another_length(self):
        for purse in ([], ROUND_PURSE[:2], ROUND_PURSE + [NOUGHT], ROUND_PURSE * 2):
            self.assert_not(ROUND, ROUND_PRICE, [0, 1, 2], purse)
        self.assert_not((1, 1, []), NOUGHT, [], [])

    def test_deeds_from_places_that_are_not_come_to(self):
        for more in (NOUGHT, (1, 2), (FAR, 1), (1, FAR)):
            self.assert_shown(APART, (3, 1), [1], APART_PURSE[:2] + [more, NOUGHT])
            self.assert_shown(APART, (3, 1), [1], APART_PURSE[:2] + [NOUGHT, more])

    def test_what_is_told_and_then_changed(self):
        for seed in range(150):
            chance = random.Random(seed)
            machine = made_machine(seed, chance.randint(1, 5), 2, chance.randint(1, 10), chance.choice([3, 1000]))
            price, ring, purse = least_price(machine)
            self.assert_shown(machine, price, ring, purse)
            self.assert_not(machine, as_pair(as_number(price) + 1), ring, purse)
            self.assert_not(machine, as_pair(as_number(price) - 1), ring, purse)
            for at in range(len(ring)):
                for number in range(len(machine[2])):
                    changed = ring[:at] + [number] + ring[at + 1:]
                    self.assertIs(shows_price(machine, price, changed, purse), ring_is_so(machine, price, changed))
                    more = ring[:at] + [number] + ring[at:]
                    self.assertIs(shows_price(machine, price, more, purse), ring_is_so(machine, price, more))
                less = ring[:at] + ring[at + 1:]
                self.assertIs(shows_price(machine, price, less, purse),
                              ring_is_so(machine, price, less) if less else price == NOUGHT)
            for place in range(machine[0]):
                for step in (Fraction(1, 6), -Fraction(1, 6), 3, -3):
                    changed = list(purse)
                    changed[place] = as_pair(as_number(changed[place]) + step)
                    self.assertIs(shows_price(machine, price, ring, changed), purse_is_so(machine, price, changed))
                self.assert_not(machine, price, ring, purse[:place] + purse[place + 1:])
                self.assert_not(machine, price, ring, purse[:place] + [NOUGHT] + purse[place:])

    def test_no_machine(self):
        for price, ring, purse in ((NOUGHT, [], [NOUGHT]), ((-1, 1), [9], [])):
            with self.assertRaises(BadMachine):
                shows_price(BAD, price, ring, purse)


class NothingChanged(unittest.TestCase):  # [0.1]
    def test_what_is_handed_in_stays(self):
        for ask, given in ((least_price, [ROUND]), (least_price, [APART]), (least_price, [NO_RING]),
                           (least_price, [FILLING]), (shows_price, [ROUND, ROUND_PRICE, [0, 1, 2], ROUND_PURSE]),
                           (shows_price, [ROUND, ROUND_PRICE, [0, 2, 1], ROUND_PURSE]),
                           (shows_price, [APART, (3, 1), [1], APART_PURSE])):
            ahead = copy.deepcopy(given)
            ask(*given)
            self.assertEqual(given, ahead, ask.__name__)

    def test_lists_that_are_told_are_new(self):
        for machine in (ROUND, APART, NO_RING, (1, 1, [])):
            told = least_price(machine)
            ahead = copy.deepcopy(told)
            told[1].append("spoilt")
            told[2].append("spoilt")
            self.assertEqual((told[1].count("spoilt"), told[2].count("spoilt")), (1, 1))
            self.assertEqual(least_price(machine), ahead)


if __name__ == "__main__":
    unittest.main()
