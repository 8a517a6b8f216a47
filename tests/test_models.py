import copy
import unittest

from making import FAR
from pursehall.errors import BadModel
from pursehall.machines import look_machine, reached
from pursehall.models import counter, queue, shelf
from pursehall.purses import least_purse

SHELVES = [(most, grow, shrink) for most in (1, 2, 3, 5, 9, 17, 29, 30) for grow in (2, 3, 4)
           for shrink in [0, *range(grow, 10)]]
COUNTERS = [(bits, down) for bits in range(1, 7) for down in (False, True)]


class Shelf:
    # The shelf itself, with its items, as a second answer.
    def __init__(self, most, grow, shrink, state):
        self.most, self.grow, self.shrink = most, grow, shrink
        self.places = [True] * state[0] + [False] * (state[1] - state[0])
        self.cost = 0

    def move_to(self, many):
        items = self.places.count(True)
        self.cost += items
        self.places = [True] * items + [False] * (many - items)

    def put(self):
        if self.places.count(True) >= self.most:
            return None
        if False not in self.places:
            self.move_to(len(self.places) * self.grow)
        self.places[self.places.index(False)] = True
        return self.told()

    def take(self):
        if True not in self.places:
            return None
        self.places[self.places.count(True) - 1] = False
        if self.shrink and len(self.places) > 1 and self.places.count(True) * self.shrink <= len(self.places):
            self.move_to(len(self.places) // self.grow)
        return self.told()

    def told(self):
        return (self.places.count(True), len(self.places)), self.cost + 1


def shelf_deed(most, grow, shrink):
    return lambda state, kind: [Shelf.put, Shelf.take][kind](Shelf(most, grow, shrink, state))


def counter_deed(bits, down):
    def deed(state, kind):
        number = state + 1 - 2 * kind
        if not 0 <= number < 2 ** bits or kind == 1 and not down:
            return None
        ahead, behind = (format(n, f"0{bits}b") for n in (state, number))
        return number, sum(one != other for one, other in zip(ahead, behind))
    return deed


def queue_deed(most):
    def deed(state, kind):
        behind, ahead = state
        if kind == 0:
            return ((behind + 1, ahead), 1) if behind + ahead < most else None
        if behind + ahead == 0:
            return None
        cost = 1
        if ahead == 0:
            behind, ahead, cost = 0, behind, cost + 2 * behind
        return (behind, ahead - 1), cost
    return deed


class Models(unittest.TestCase):  # [4.1]
    def assert_told(self, told, first, deed):
        self.assertIsInstance(told, tuple)
        self.assertEqual(len(told), 2)
        machine, states = told
        self.assertIsInstance(states, list)
        self.assertIsNone(look_machine(machine))
        self.assertEqual((machine[0], machine[1]), (len(states), 2))
        # Numbered anew: the deeds state by state, and each state where it first comes up.
        numbered, deeds = [first], []
        for number, state in enumerate(numbered):
            for kind in (0, 1):
                led = deed(state, kind)
                if led is not None:
                    if led[0] not in numbered:
                        numbered.append(led[0])
                    deeds.append((number, kind, numbered.index(led[0]), led[1]))
        self.assertEqual(states, numbered)
        self.assertEqual(machine[2], deeds)
        self.assertEqual(reached(machine), [True] * machine[0])

    def test_shelves(self):
        for measures in SHELVES:
            with self.subTest(measures):
                self.assert_told(shelf(*measures), (0, 1), shelf_deed(*measures))

    def test_counters(self):
        for measures in COUNTERS:
            with self.subTest(measures):
                self.assert_told(counter(*measures), 0, counter_deed(*measures))

    def test_queues(self):
        for most in range(1, 16):
            with self.subTest(most):
                self.assert_told(queue(most), (0, 0), queue_deed(most))


class Shelves(unittest.TestCase):  # [4.2]
    def test_the_smallest(self):
        for grow in (2, 3, 4):
            for shrink in (0, grow, 9):
                self.assertEqual(shelf(1, grow, shrink), ((2, 2, [(0, 0, 1, 1), (1, 1, 0, 1)]), [(0, 1), (1, 1)]))

    def test_one_that_never_shrinks(self):
        self.assertEqual(shelf(3, 2, 0), (
            (9, 2, [(0, 0, 1, 1),
                    (1, 0, 2, 2), (1, 1, 0, 1),
                    (2, 0, 3, 3), (2, 1, 4, 1),
                    (3, 1, 5, 1),
                    (4, 0, 2, 1), (4, 1, 6, 1),
                    (5, 0, 3, 1), (5, 1, 7, 1),
                    (6, 0, 4, 1),
                    (7, 0, 5, 1), (7, 1, 8, 1),
                    (8, 0, 7, 1)]),
            [(0, 1), (1, 1), (2, 2), (3, 4), (1, 2), (2, 4), (0, 2), (1, 4), (0, 4)]))

    def test_one_that_shrinks(self):
        self.assertEqual(shelf(3, 2, 4), (
            (6, 2, [(0, 0, 1, 1),
                    (1, 0, 2, 2), (1, 1, 0, 1),
                    (2, 0, 3, 3), (2, 1, 4, 1),
                    (3, 1, 5, 1),
                    (4, 0, 2, 1), (4, 1, 0, 1),
                    (5, 0, 3, 1), (5, 1, 4, 2)]),
            [(0, 1), (1, 1), (2, 2), (3, 4), (1, 2), (2, 4)]))

    def test_shrink_at_grow(self):
        self.assertEqual(shelf(2, 3, 3), (
            (3, 2, [(0, 0, 1, 1), (1, 0, 2, 2), (1, 1, 0, 1), (2, 1, 1, 2)]), [(0, 1), (1, 1), (2, 3)]))

    def test_the_largest(self):
        for grow, last in ((2, 32), (3, 81), (4, 64)):
            machine, states = shelf(30, grow, 0)
            self.assertIn((30, last), states)
            self.assertIn((0, last), states)
            self.assertNotIn(31, [state[0] for state in states])
            full = {2: 16, 3: 27, 4: 16}[grow]
            deed = (states.index((full, full)), 0, states.index((full + 1, last)), full + 1)
            self.assertIn(deed, machine[2])

    def test_most(self):
        for most in (1, 30):
            shelf(most, 2, 0)
        for most in (0, 31, -1, FAR, -FAR, True):
            with self.subTest(most), self.assertRaises(BadModel):
                shelf(most, 2, 0)

    def test_grow(self):
        for grow in (2, 3, 4):
            shelf(9, grow, 0)
        for grow in (0, 1, 5, -2, FAR, -FAR):
            for shrink in (0, 4, 5, 9):
                with self.subTest(grow=grow, shrink=shrink), self.assertRaises(BadModel):
                    shelf(9, grow, shrink)

    def test_shrink(self):
        for grow in (2, 3, 4):
            for shrink in [0, *range(grow, 10)]:
                shelf(9, grow, shrink)
            for shrink in [-1, *range(1, grow), 10, -grow, FAR, -FAR, False]:
                with self.subTest(grow=grow, shrink=shrink), self.assertRaises(BadModel):
                    shelf(9, grow, shrink)

    def test_prices_of_doubling(self):
        # Three for each item put and one for each taken pay for a shelf that never shrinks.
        self.assertEqual(least_purse(shelf(30, 2, 0)[0], [3, 1])[0], "purse")
        self.assertEqual(least_purse(shelf(30, 2, 0)[0], [1, 1])[0], "row")
        self.assertEqual(least_purse(shelf(30, 2, 4)[0], [3, 2])[0], "purse")
        self.assertEqual(least_purse(shelf(30, 2, 2)[0], [3, 2])[0], "row")


class Counters(unittest.TestCase):  # [4.3]
    def test_two_bits(self):
        self.assertEqual(counter(2, False), (
            (4, 2, [(0, 0, 1, 1), (1, 0, 2, 2), (2, 0, 3, 1)]), [0, 1, 2, 3]))
        self.assertEqual(counter(2, True), (
            (4, 2, [(0, 0, 1, 1), (1, 0, 2, 2), (1, 1, 0, 1), (2, 0, 3, 1), (2, 1, 1, 2), (3, 1, 2, 1)]),
            [0, 1, 2, 3]))

    def test_one_bit(self):
        self.assertEqual(counter(1, False), ((2, 2, [(0, 0, 1, 1)]), [0, 1]))
        self.assertEqual(counter(1, True), ((2, 2, [(0, 0, 1, 1), (1, 1, 0, 1)]), [0, 1]))

    def test_six_bits(self):
        for down in (False, True):
            machine, states = counter(6, down)
            self.assertEqual(states, list(range(64)))
            self.assertIn((31, 0, 32, 6), machine[2])
            self.assertIs((32, 1, 31, 6) in machine[2], down)
            self.assertEqual(len(machine[2]), 126 if down else 63)

    def test_bits(self):
        for bits in (0, 7, -1, FAR, -FAR, True):
            for down in (False, True):
                with self.subTest(bits=bits, down=down), self.assertRaises(BadModel):
                    counter(bits, down)

    def test_whether_it_goes_down(self):
        for down in (0, 1, None):
            with self.subTest(down), self.assertRaises(BadModel):
                counter(3, down)

    def test_prices(self):
        self.assertEqual(least_purse(counter(6, False)[0], [2, 0])[0], "purse")
        self.assertEqual(least_purse(counter(6, True)[0], [2, 2])[0], "row")


class Queues(unittest.TestCase):  # [4.4]
    def test_a_small_one(self):
        self.assertEqual(queue(1), ((2, 2, [(0, 0, 1, 1), (1, 1, 0, 3)]), [(0, 0), (1, 0)]))
        self.assertEqual(queue(2), (
            (5, 2, [(0, 0, 1, 1),
                    (1, 0, 2, 1), (1, 1, 0, 3),
                    (2, 1, 3, 5),
                    (3, 0, 4, 1), (3, 1, 0, 1),
                    (4, 1, 1, 1)]),
            [(0, 0), (1, 0), (2, 0), (0, 1), (1, 1)]))

    def test_the_largest(self):
        machine, states = queue(15)
        self.assertIn((states.index((15, 0)), 1, states.index((0, 14)), 31), machine[2])
        self.assertEqual(max(sum(state) for state in states), 15)

    def test_most(self):
        for most in (0, 16, -1, FAR, -FAR, True):
            with self.subTest(most), self.assertRaises(BadModel):
                queue(most)

    def test_prices(self):
        self.assertEqual(least_purse(queue(15)[0], [3, 1])[0], "purse")
        self.assertEqual(least_purse(queue(15)[0], [2, 1])[0], "row")


class NothingKept(unittest.TestCase):  # [0.1]
    def test_lists_that_are_told_are_new(self):
        for ask, measures in ((shelf, (5, 2, 4)), (counter, (3, True)), (queue, (4,))):
            told = ask(*measures)
            ahead = copy.deepcopy(told)
            told[0][2].append("spoilt")
            told[1].append("spoilt")
            self.assertEqual((told[0][2].count("spoilt"), told[1].count("spoilt")), (1, 1))
            self.assertEqual(ask(*measures), ahead)


if __name__ == "__main__":
    unittest.main()
