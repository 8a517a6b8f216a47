import unittest

from making import FILLING, made_machine
from pursehall.machines import gone, reached
from pursehall.rings import gain_of, most_gains, ring_onward, row_onward, way_to


class Ways(unittest.TestCase):
    def test_a_way_to_each_place_that_can_be_come_to(self):
        for seed in range(40):
            machine = made_machine(seed, 15, 1, 25, 1000)
            for place, come in enumerate(reached(machine)):
                if come:
                    self.assertEqual(gone(machine, way_to(machine, place))[-1], place)

    def test_shortest_ways(self):
        self.assertEqual(way_to(FILLING, 0), [])
        self.assertEqual(way_to(FILLING, 3), [0, 1, 3])
        self.assertEqual(way_to((3, 1, [(0, 0, 1, 0), (0, 0, 2, 9), (1, 0, 2, 0)]), 2), [1])


class Gains(unittest.TestCase):
    def test_nothing_is_gained_where_all_deeds_lose(self):
        self.assertEqual(most_gains(FILLING, [-1] * 7), ([0] * 5, [None] * 5, None))

    def test_what_a_row_gains_is_what_its_first_place_is_told(self):
        machine = (4, 1, [(0, 0, 1, 0), (0, 0, 2, 0), (1, 0, 3, 0), (2, 0, 3, 0), (3, 0, 0, 0)])
        most, onward, raised = most_gains(machine, [-2, 1, 6, 2, -9])
        self.assertEqual((most, raised), ([4, 6, 2, 0], None))
        row = row_onward(machine, onward, 0)
        self.assertEqual(gone(machine, row), [0, 1, 3])
        self.assertEqual(gain_of([-2, 1, 6, 2, -9], row), 4)

    def test_a_ring_that_gains(self):
        for seed in range(60):
            machine = made_machine(seed, 10, 1, 20, 100)
            gains = [deed[3] - 60 for deed in machine[2]]
            most, onward, raised = most_gains(machine, gains)
            if raised is not None:
                ring = ring_onward(machine, onward, raised)
                places = [machine[2][number][0] for number in ring]
                self.assertEqual([machine[2][number][2] for number in ring], places[1:] + places[:1])
                self.assertGreater(gain_of(gains, ring), 0)
                self.assertTrue(reached(machine)[places[0]])


if __name__ == "__main__":
    unittest.main()
