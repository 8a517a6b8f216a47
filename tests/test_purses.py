import copy
import itertools
import time
import unittest

from making import FAR, FILLING, made_machine, made_row, paying_purses, purse_pays, small_machines
from pursehall.errors import BadMachine, BadPrices, BadRow
from pursehall.machines import cost_of, gone, reached
from pursehall.purses import breaks, least_purse, pays

BAD = (1, 1, [(0, 0, 0, -1)])
# Each filling deed puts 2 into the purse; emptying from place 3 takes all 6 of it.
ENOUGH = [3, 1]
PURSE = [0, 2, 4, 6, 0]
LOOP = (1, 1, [(0, 0, 0, 7)])
# The way costs nothing and so saves 10 a deed, the ring at place 2 costs 1 over its price.
SAVING = (3, 1, [(0, 0, 1, 0), (1, 0, 2, 0), (2, 0, 2, 11)])
# The way costs 6 over its price, the ring at place 1 saves 5 each time.
SPENDING = (2, 1, [(0, 0, 1, 16), (1, 0, 1, 5)])


def asks(machine, prices):
    purse = [0] * 3
    return [lambda: pays(machine, prices, purse), lambda: least_purse(machine, prices),
            lambda: breaks(machine, prices, [], [], 0), lambda: breaks(machine, prices, [99], [], 0)]


class Prices(unittest.TestCase):  # [2.1]
    def test_at_the_bounds(self):
        machine = (1, 2, [(0, 0, 0, 0), (0, 1, 0, 1000)])
        self.assertTrue(pays(machine, [0, 1000], [0]))
        self.assertEqual(least_purse(machine, [0, 1000]), ("purse", [0]))
        self.assertFalse(breaks(machine, [0, 1000], [0, 1], [], 0))

    def test_what_are_no_prices(self):
        machine = (1, 2, [(0, 0, 0, 0), (0, 1, 0, 1000)])
        for prices in ([], [1], [1, 2, 3], [-1, 5], [5, -1], [1001, 5], [5, 1001], [FAR, 5], [5, -FAR],
                       [True, 5], (5, 5), None):
            for ask in asks(machine, prices):
                with self.subTest(prices=prices), self.assertRaises(BadPrices):
                    ask()

    def test_the_machine_is_looked_at_first(self):
        for prices in ([1], [], [-1], [1, 2], None):
            for ask in asks(BAD, prices):
                with self.subTest(prices=prices), self.assertRaises(BadMachine):
                    ask()


class Pays(unittest.TestCase):  # [2.1]
    def test_just_paying_and_one_short(self):
        self.assertTrue(pays(FILLING, ENOUGH, PURSE))
        for place in (1, 2, 3):
            short = list(PURSE)
            short[place] -= 1
            self.assertFalse(pays(FILLING, ENOUGH, short), place)
            above = list(PURSE)
            above[place] += 1
            self.assertFalse(pays(FILLING, ENOUGH, above), place)

    def test_prices_one_short(self):
        self.assertFalse(pays(FILLING, [2, 1], PURSE))
        self.assertFalse(pays(FILLING, [3, 0], PURSE))
        self.assertTrue(pays(FILLING, [4, 2], PURSE))

    def test_another_length(self):
        for purse in ([], [0], PURSE[:4], PURSE + [0], PURSE + PURSE):
            self.assertFalse(pays(FILLING, ENOUGH, purse))
        self.assertFalse(pays((1, 1, []), [0], []))
        self.assertFalse(pays((1, 1, []), [0], [0, 0]))

    def test_something_at_place_0(self):
        self.assertTrue(pays(LOOP, [7], [0]))
        for something in (1, -1, FAR, -FAR):
            self.assertFalse(pays(LOOP, [7], [something]))
        # All the other duties hold: each place has 1 more.
        self.assertFalse(pays(FILLING, ENOUGH, [1, 3, 5, 7, 0]))

    def test_less_than_nothing_somewhere(self):
        machine = (2, 1, [(0, 0, 1, 0)])
        self.assertTrue(pays(machine, [5], [0, 0]))
        self.assertTrue(pays(machine, [5], [0, 5]))
        for purse in ([0, -1], [0, -FAR], [0, 6], [0, FAR]):
            self.assertFalse(pays(machine, [5], purse))

    def test_less_than_nothing_at_a_place_that_is_not_come_to(self):
        for least in (-1, -FAR):
            self.assertFalse(pays(FILLING, ENOUGH, PURSE[:4] + [least]))
            self.assertFalse(pays((2, 1, []), [0], [0, least]))

    def test_deeds_from_places_that_are_not_come_to(self):
        for most in (0, 1, 5000, FAR):
            self.assertTrue(pays(FILLING, ENOUGH, PURSE[:4] + [most]))
        loop_apart = (2, 1, [(1, 0, 1, 1000)])
        self.assertTrue(pays(loop_apart, [0], [0, 0]))

    def test_no_deeds(self):
        self.assertTrue(pays((1, 1, []), [0], [0]))

    def test_against_a_second_answer(self):
        for machine, prices in small_machines(60):
            for rest in itertools.product(range(-1, 4), repeat=machine[0] - 1):
                for first in (0, 1):
                    purse = [first, *rest]
                    self.assertIs(pays(machine, prices, purse), purse_pays(machine, prices, purse))


class Breaks(unittest.TestCase):  # [2.2]
    def test_a_ring_once_and_never(self):
        self.assertTrue(breaks(LOOP, [6], [], [0], 1))
        self.assertTrue(breaks(LOOP, [6], [], [0], FAR))
        self.assertTrue(breaks(LOOP, [6], [], [0, 0, 0], 1))
        self.assertFalse(breaks(LOOP, [6], [], [0], 0))
        self.assertFalse(breaks(LOOP, [7], [], [0], 1))
        self.assertFalse(breaks(LOOP, [7], [], [0], FAR))
        self.assertFalse(breaks(LOOP, [8], [], [0], FAR))

    def test_a_ring_that_makes_up_for_the_way(self):
        for many in (0, 1, 19, 20):
            self.assertFalse(breaks(SAVING, [10], [0, 1], [2], many), many)
        for many in (21, 22, 1000, FAR):
            self.assertTrue(breaks(SAVING, [10], [0, 1], [2], many), many)

    def test_deeds_of_the_ring_within_the_way(self):
        self.assertFalse(breaks(SAVING, [10], [0, 1] + [2] * 15, [2], 5))
        self.assertTrue(breaks(SAVING, [10], [0, 1] + [2] * 15, [2], 6))

    def test_a_way_that_a_ring_makes_up_for(self):
        for many in (0, 1):
            self.assertTrue(breaks(SPENDING, [10], [0], [1], many), many)
        for many in (2, 3, FAR):
            self.assertFalse(breaks(SPENDING, [10], [0], [1], many), many)

    def test_an_empty_ring(self):
        for many in (0, 1, FAR):
            self.assertTrue(breaks(SPENDING, [15], [0], [], many))
            self.assertFalse(breaks(SPENDING, [16], [0], [], many))
            self.assertFalse(breaks(SPENDING, [0], [], [], many))

    def test_a_ring_of_more_deeds_and_kinds(self):
        # The ring costs 10 for prices of 3 times the first and once the second.
        ring = [0, 1, 3, 5]
        self.assertTrue(breaks(FILLING, [3, 0], [], ring, 1))
        self.assertFalse(breaks(FILLING, [3, 1], [], ring, FAR))
        self.assertTrue(breaks(FILLING, [2, 3], [], ring, 1))
        self.assertFalse(breaks(FILLING, [2, 4], [], ring, FAR))
        self.assertTrue(breaks(FILLING, [3, 0], [0, 1], [3, 5, 0, 1], 5))
        self.assertFalse(breaks(FILLING, [3, 0], [0, 1], [3, 5, 0, 1], 4))

    def test_a_ring_that_does_not_lead_back(self):
        for many in (0, 1, 5, FAR):
            self.assertFalse(breaks(FILLING, [0, 0], [], [0], many))
            self.assertFalse(breaks(FILLING, [0, 0], [0], [1, 3], many))
            # It leads back to place 0, but did not begin there.
            self.assertFalse(breaks(FILLING, [0, 0], [0], [1, 4], many))
            # It comes back to where it began, and then goes on.
            self.assertFalse(breaks(FILLING, [0, 0], [], [0, 2, 0], many))

    def test_a_number_below_0(self):
        for many in (-1, -2, -FAR):
            self.assertFalse(breaks(LOOP, [6], [], [0], many))
            self.assertFalse(breaks(LOOP, [8], [], [0], many))
            self.assertFalse(breaks(SPENDING, [10], [0], [1], many))
            self.assertFalse(breaks(SPENDING, [10], [0], [], many))

    def test_no_row(self):
        for way, ring in (([1], []), ([], [1]), ([0], [0]), ([0, 3], []), ([0, 1], [0, 1]), ([0], [3, 5, 0]),
                          ([-1], []), ([], [-1]), ([7], []), ([0], [7]), ([FAR], []), ([], [-FAR]),
                          ([6], [1]), ([0], [1, 3, 5, 5])):
            for many in (0, 1, -1, FAR):
                with self.subTest(way=way, ring=ring, many=many), self.assertRaises(BadRow):
                    breaks(FILLING, [0, 0], way, ring, many)

    def test_the_prices_are_looked_at_first(self):
        for way, ring in (([1], []), ([], [99]), ([0], [0])):
            with self.assertRaises(BadPrices):
                breaks(FILLING, [0, 1001], way, ring, 1)


class LeastPurse(unittest.TestCase):  # [2.3], [0.2]
    def assert_broken(self, machine, prices):
        told = least_purse(machine, prices)
        self.assertIsInstance(told, tuple)
        self.assertEqual((told[0], len(told)), ("row", 4))
        self.assertIs(breaks(machine, prices, told[1], told[2], told[3]), True)
        return told

    def assert_pays(self, machine, prices, purse):
        self.assertEqual(least_purse(machine, prices), ("purse", purse))
        self.assertIs(pays(machine, prices, purse), True)

    def test_prices_that_just_pay(self):
        self.assert_pays(FILLING, ENOUGH, PURSE)
        self.assert_pays(FILLING, [2, 4], [0, 1, 2, 3, 0])
        self.assert_pays(LOOP, [7], [0])

    def test_prices_that_pay(self):
        self.assert_pays(FILLING, [4, 2], [0, 1, 3, 5, 0])
        self.assert_pays(FILLING, [1000, 1000], [0] * 5)
        self.assert_pays(LOOP, [1000], [0])

    def test_no_deeds(self):
        self.assert_pays((1, 1, []), [0], [0])
        self.assert_pays((200, 8, []), [0] * 8, [0] * 200)

    def test_a_ring_that_costs_too_much(self):
        self.assert_broken(FILLING, [2, 3])
        self.assert_broken(FILLING, [3, 0])
        self.assert_broken(FILLING, [0, 0])
        self.assert_broken(LOOP, [6])
        self.assert_broken((1, 1, [(0, 0, 0, 1)]), [0])

    def test_a_ring_behind_a_way_that_saves_much(self):
        told = self.assert_broken(SAVING, [10])
        self.assertGreater(len(told[1]) + len(told[2]) * told[3], 22)
        way = (200, 1, [(p, 0, p + 1, 0) for p in range(199)] + [(199, 0, 199, 1000)])
        told = self.assert_broken(way, [999])
        self.assertGreater(told[3], 199 * 999)

    def test_a_long_ring_that_costs_one_too_much(self):
        deeds = [(p, 0, p + 1, 0) for p in range(199)]
        self.assert_broken((200, 1, deeds + [(199, 0, 0, 201)]), [1])
        self.assert_pays((200, 1, deeds + [(199, 0, 0, 200)]), [1], list(range(200)))

    def test_a_way_alone_that_costs_too_much(self):
        self.assert_broken(SPENDING, [10])
        self.assert_broken(SPENDING, [15])
        self.assert_pays(SPENDING, [16], [0, 0])
        steps = (4, 2, [(0, 0, 1, 1), (1, 1, 2, 6), (2, 0, 3, 5)])
        self.assert_broken(steps, [3, 3])
        self.assert_broken(steps, [4, 3])
        self.assert_pays(steps, [4, 4], [0, 3, 1, 0])

    def test_a_way_that_costs_too_much_beside_rings_that_save(self):
        machine = (3, 1, [(0, 0, 0, 1), (0, 0, 1, 9), (1, 0, 0, 2), (1, 0, 2, 3), (2, 0, 2, 4)])
        self.assert_broken(machine, [8])
        self.assert_pays(machine, [9], [0, 0, 0])

    def test_places_that_are_not_come_to(self):
        self.assert_pays((2, 1, [(1, 0, 1, 1000)]), [0], [0, 0])
        self.assert_pays((3, 1, [(0, 0, 0, 1), (1, 0, 0, 1000), (2, 0, 1, 1000)]), [1], [0, 0, 0])
        self.assert_pays((3, 1, [(0, 0, 2, 1), (1, 0, 2, 900), (2, 0, 0, 5)]), [3], [0, 0, 2])

    def test_small_machines_against_every_purse(self):
        ended = {"purse": 0, "row": 0}
        for machine, prices in small_machines(250):
            told = least_purse(machine, prices)
            paying = list(paying_purses(machine, prices, 3 * (machine[0] - 1)))
            ended[told[0]] += 1
            if told[0] == "row":
                self.assert_broken(machine, prices)
                self.assertEqual(paying, [])
            else:
                least = [min(column) for column in zip(*paying)]
                self.assert_pays(machine, prices, least)
        self.assertGreater(min(ended.values()), 60)

    def test_what_does_not_pay_is_never_told(self):
        for seed in range(150):
            machine = made_machine(seed, 12, 3, 30, 1000)
            for price in (0, 300, 500, 600, 700, 800, 900, 1000):
                prices = [price, 1000, price]
                told = least_purse(machine, prices)
                if told[0] == "row":
                    self.assert_broken(machine, prices)
                else:
                    self.assertTrue(pays(machine, prices, told[1]))
                    come_to = reached(machine)
                    self.assertEqual([told[1][p] for p in range(12) if not come_to[p]], [0] * come_to.count(False))

    def test_by_a_purse_that_pays_a_row_leaves_what_it_has(self):
        rows = 0
        for machine, prices in small_machines(250):
            told = least_purse(machine, prices)
            for seed in range(5):
                row = made_row(seed, machine, 40)
                if told[0] == "purse":
                    rows += 1
                    paid = sum(prices[machine[2][n][1]] for n in row)
                    left = told[1][gone(machine, row)[-1]]
                    self.assertLessEqual(cost_of(machine, row), paid - left)
        self.assertGreater(rows, 100)

    def test_large_machines_answer_in_seconds(self):
        begin = time.monotonic()
        up = (200, 8, [(p, k, p + 1, 1000 - k) for p in range(199) for k in range(3)]
              + [(199, 7, 0, cost) for cost in (998, 999, 1000)])
        self.assertEqual(len(up[2]), 600)
        self.assert_broken(up, [0] * 8)
        self.assert_broken(up, [999] * 8)
        self.assert_pays(up, [1000] * 8, [0] * 200)
        saving = (200, 2, [(p, 0, p + 1, 0) for p in range(199)] + [(199, 1, 0, 1000)])
        self.assert_pays(saving, [1000, 0], [0] * 199 + [1000])
        for seed in range(10):
            machine = made_machine(seed, 200, 8, 600, 1000)
            for price in (0, 500, 900, 999, 1000):
                prices = [price] * 8
                told = least_purse(machine, prices)
                if told[0] == "row":
                    self.assert_broken(machine, prices)
                else:
                    self.assertTrue(pays(machine, prices, told[1]))
        self.assertLess(time.monotonic() - begin, 30)


class NothingChanged(unittest.TestCase):  # [0.1]
    def test_what_is_handed_in_stays(self):
        for ask, given in ((pays, [FILLING, ENOUGH, PURSE]), (pays, [FILLING, [0, 0], PURSE]),
                           (breaks, [FILLING, [3, 0], [0, 1], [3, 5, 0, 1], 5]),
                           (breaks, [FILLING, [3, 0], [0], [1], 5]),
                           (least_purse, [FILLING, ENOUGH]), (least_purse, [FILLING, [0, 0]]),
                           (least_purse, [SPENDING, [10]]), (least_purse, [SAVING, [10]])):
            ahead = copy.deepcopy(given)
            ask(*given)
            self.assertEqual(given, ahead, ask.__name__)

    def test_lists_that_are_told_are_new(self):
        for machine, prices in ((FILLING, ENOUGH), (SPENDING, [10]), (SAVING, [10]), (LOOP, [6]), ((1, 1, []), [0])):
            told = least_purse(machine, prices)
            ahead = copy.deepcopy(told)
            for part in told:
                if isinstance(part, list):
                    part.append("spoilt")
            self.assertEqual(least_purse(machine, prices), ahead)
            self.assertTrue(all(part[-1] == "spoilt" and part.count("spoilt") == 1
                                for part in told if isinstance(part, list)))


if __name__ == "__main__":
    unittest.main()
