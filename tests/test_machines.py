import copy
import unittest

from making import FAR, FILLING, made_machine, made_row, places_come_to, small_machines
from pursehall.errors import BadMachine, BadRow
from pursehall.machines import beside, cost_of, gone, look_machine, reached

BAD = (1, 1, [(0, 0, 0, 1001)])


def many_deeds(count):
    return (2, 1, sorted([(n % 2, 0, n // 2 % 2, n // 4) for n in range(count)]))


class Machines(unittest.TestCase):  # [1.1]
    def assert_machine(self, machine):
        with self.subTest(str(machine)[:60]):
            self.assertIsNone(look_machine(machine))

    def assert_bad(self, machine):
        with self.subTest(str(machine)[:60]), self.assertRaises(BadMachine):
            look_machine(machine)

    def test_ordinary_machines(self):
        self.assert_machine(FILLING)
        for seed in range(20):
            self.assert_machine(made_machine(seed, 9, 3, 40, 1000))

    def test_no_deeds(self):
        self.assert_machine((1, 1, []))

    def test_how_many_places(self):
        self.assert_machine((200, 1, []))
        for places in (0, 201, -1, FAR, -FAR):
            self.assert_bad((places, 1, []))

    def test_how_many_kinds(self):
        self.assert_machine((1, 8, []))
        for kinds in (0, 9, -1, FAR, -FAR):
            self.assert_bad((1, kinds, []))

    def test_how_many_deeds(self):
        self.assert_machine(many_deeds(600))
        self.assert_bad(many_deeds(601))

    def test_costs(self):
        for cost in (0, 1, 1000):
            self.assert_machine((1, 1, [(0, 0, 0, cost)]))
        for cost in (-1, 1001, FAR, -FAR):
            self.assert_bad((1, 1, [(0, 0, 0, cost)]))

    def test_places_and_kind_of_a_deed(self):
        for deed in ((2, 0, 0, 5), (0, 2, 0, 5), (0, 0, 2, 5), (2, 2, 2, 5)):
            self.assert_machine((3, 3, [deed]))
        for at in range(3):
            for number in (-1, -3, 3, FAR, -FAR):
                deed = [0, 0, 0, 5]
                deed[at] = number
                self.assert_bad((3, 3, [tuple(deed)]))

    def test_a_kind_is_held_against_the_kinds_and_a_place_against_the_places(self):
        self.assert_machine((1, 3, [(0, 2, 0, 0)]))
        self.assert_machine((3, 1, [(2, 0, 2, 0)]))
        self.assert_bad((3, 1, [(0, 2, 0, 0)]))
        self.assert_bad((1, 3, [(2, 0, 0, 0)]))
        self.assert_bad((1, 3, [(0, 0, 2, 0)]))

    def test_a_bad_deed_behind_good_ones(self):
        self.assert_bad((2, 1, [(0, 0, 0, 0), (0, 0, 1, 0), (1, 0, 2, 0)]))

    def test_deeds_rise(self):
        rising = [(0, 0, 0, 1), (0, 0, 0, 2), (0, 0, 1, 0), (0, 1, 0, 0), (1, 0, 0, 0)]
        self.assert_machine((2, 2, rising))
        for at in range(4):
            turned = list(rising)
            turned[at], turned[at + 1] = turned[at + 1], turned[at]
            self.assert_bad((2, 2, turned))

    def test_no_deed_stands_twice(self):
        self.assert_bad((1, 1, [(0, 0, 0, 1), (0, 0, 0, 1)]))
        self.assert_bad((2, 1, [(0, 0, 0, 1), (1, 0, 0, 1), (1, 0, 0, 1)]))

    def test_truths_are_no_whole_numbers(self):
        self.assert_bad((True, 1, []))
        self.assert_bad((1, True, []))
        for at in range(4):
            deed = [0, 0, 0, 0]
            deed[at] = False
            self.assert_bad((1, 1, [tuple(deed)]))

    def test_other_forms(self):
        for machine in ([1, 1, []], (1, 1), (1, 1, [], []), (1, 1, ()), (1, 1, [(0, 0, 0)]),
                        (1, 1, [(0, 0, 0, 0, 0)]), (1, 1, [[0, 0, 0, 0]]), None):
            self.assert_bad(machine)


class Rows(unittest.TestCase):  # [1.2]
    def test_the_empty_row(self):
        for machine in (FILLING, (1, 1, [])):
            self.assertEqual(gone(machine, []), [0])
            self.assertEqual(cost_of(machine, []), 0)

    def test_rows_that_go_on(self):
        self.assertEqual(gone(FILLING, [0]), [0, 1])
        self.assertEqual(cost_of(FILLING, [0]), 1)
        self.assertEqual(gone(FILLING, [0, 1, 3, 5, 0, 2]), [0, 1, 2, 3, 0, 1, 0])
        self.assertEqual(cost_of(FILLING, [0, 1, 3, 5, 0, 2]), 14)

    def test_a_deed_may_come_more_than_once(self):
        machine = (1, 1, [(0, 0, 0, 1000)])
        self.assertEqual(gone(machine, [0] * 5000), [0] * 5001)
        self.assertEqual(cost_of(machine, [0] * 5000), 5000000)

    def test_made_rows(self):
        for seed in range(30):
            machine = made_machine(seed, 8, 2, 30, 1000)
            row = made_row(seed, machine, 25)
            self.assertEqual(gone(machine, row), [0] + [machine[2][n][2] for n in row])
            self.assertEqual(cost_of(machine, row), sum(machine[2][n][3] for n in row))

    def test_what_is_no_row(self):
        no_rows = [[1], [6], [3, 5],        # do not begin at place 0
                   [0, 0], [0, 3], [0, 1, 2], [0, 2, 1],  # do not go on
                   [-1], [-7], [7], [0, -6], [0, 7], [FAR], [-FAR],  # no deeds' numbers
                   [False], (0, 1), None]
        for row in no_rows:
            for ask in (gone, cost_of):
                with self.subTest(row=row, ask=ask.__name__), self.assertRaises(BadRow):
                    ask(FILLING, row)

    def test_a_machine_without_deeds_has_the_empty_row_alone(self):
        for row in ([0], [-1], [0, 0]):
            for ask in (gone, cost_of):
                with self.assertRaises(BadRow):
                    ask((1, 1, []), row)

    def test_a_negative_number_is_not_counted_from_the_end(self):
        for ask in (gone, cost_of):
            with self.assertRaises(BadRow):
                ask((1, 1, [(0, 0, 0, 1)]), [-1])

    def test_the_machine_is_looked_at_first(self):
        for row in ([], [0], [5], [-1], None):
            for ask in (gone, cost_of):
                with self.assertRaises(BadMachine):
                    ask(BAD, row)


class Reached(unittest.TestCase):  # [1.2]
    def test_places_that_no_row_comes_to(self):
        self.assertEqual(reached(FILLING), [True, True, True, True, False])

    def test_place_0_is_come_to_by_the_empty_row(self):
        self.assertEqual(reached((1, 1, [])), [True])
        self.assertEqual(reached((3, 1, [])), [True, False, False])

    def test_a_deed_that_leads_only_the_other_way(self):
        self.assertEqual(reached((2, 1, [(1, 0, 0, 1)])), [True, False])

    def test_rings(self):
        ring = (3, 1, [(0, 0, 1, 1), (1, 0, 2, 1), (2, 0, 0, 1)])
        self.assertEqual(reached(ring), [True, True, True])
        apart = (4, 1, [(0, 0, 0, 1), (1, 0, 2, 1), (2, 0, 1, 1), (3, 0, 3, 1)])
        self.assertEqual(reached(apart), [True, False, False, False])
        led_to = (4, 1, [(0, 0, 2, 1), (1, 0, 2, 1), (2, 0, 1, 1), (3, 0, 1, 1)])
        self.assertEqual(reached(led_to), [True, True, True, False])

    def test_a_long_way_back_and_forth(self):
        up = (200, 1, [(place, 0, place + 1, 1) for place in range(199)])
        self.assertEqual(reached(up), [True] * 200)
        down = (200, 1, [(0, 0, 199, 1)] + [(place, 0, place - 1, 1) for place in range(2, 200)])
        self.assertEqual(reached(down), [True] * 200)

    def test_made_machines(self):
        for machine, prices in small_machines(100):
            come = places_come_to(machine)
            self.assertEqual(reached(machine), [place in come for place in range(machine[0])])

    def test_truths_alone(self):
        for value in reached(FILLING):
            self.assertIsInstance(value, bool)

    def test_no_machine(self):
        with self.assertRaises(BadMachine):
            reached(BAD)


class Beside(unittest.TestCase):  # [1.3]
    ONE = (2, 1, [(0, 0, 1, 3), (1, 0, 0, 4)])
    OTHER = (3, 2, [(0, 0, 2, 5), (2, 1, 1, 7)])

    def test_deed_by_deed(self):
        self.assertEqual(beside(self.ONE, self.OTHER), (6, 3, [
            (0, 0, 3, 3), (0, 1, 2, 5),
            (1, 0, 4, 3),
            (2, 0, 5, 3), (2, 2, 1, 7),
            (3, 0, 0, 4), (3, 1, 5, 5),
            (4, 0, 1, 4),
            (5, 0, 2, 4), (5, 2, 4, 7),
        ]))

    def test_the_other_way_round(self):
        self.assertEqual(beside(self.OTHER, self.ONE), (6, 3, [
            (0, 0, 4, 5), (0, 2, 1, 3),
            (1, 0, 5, 5), (1, 2, 0, 4),
            (2, 2, 3, 3), (3, 2, 2, 4),
            (4, 1, 2, 7), (4, 2, 5, 3),
            (5, 1, 3, 7), (5, 2, 4, 4),
        ]))

    def test_what_comes_is_a_machine(self):
        for seed in range(20):
            one = made_machine(seed, 6, 2, 12, 1000)
            other = made_machine(seed + 100, 7, 3, 15, 1000)
            both = beside(one, other)
            self.assertIsNone(look_machine(both))
            self.assertEqual((both[0], both[1], len(both[2])), (42, 5, 12 * 7 + 15 * 6))

    def test_rows_of_both_put_into_one_another(self):
        for seed in range(20):
            one = made_machine(seed, 6, 2, 14, 1000)
            other = made_machine(seed + 100, 7, 3, 16, 1000)
            both = beside(one, other)
            row_one = made_row(seed, one, 10)
            row_other = made_row(seed, other, 10)
            row = self.put_together(both, one, row_one, other, row_other)
            self.assertEqual(cost_of(both, row), cost_of(one, row_one) + cost_of(other, row_other))
            last = gone(one, row_one)[-1] * other[0] + gone(other, row_other)[-1]
            self.assertEqual(gone(both, row)[-1], last)

    def put_together(self, both, one, row_one, other, row_other):
        row, p, q = [], 0, 0
        for turn in range(max(len(row_one), len(row_other))):
            if turn < len(row_one):
                start, kind, end, cost = one[2][row_one[turn]]
                row.append(both[2].index((p * other[0] + q, kind, end * other[0] + q, cost)))
                p = end
            if turn < len(row_other):
                start, kind, end, cost = other[2][row_other[turn]]
                row.append(both[2].index((p * other[0] + q, one[1] + kind, p * other[0] + end, cost)))
                q = end
        return row

    def test_at_the_bounds(self):
        self.assertEqual(beside((20, 4, []), (10, 4, [])), (200, 8, []))
        full = beside((200, 1, [(0, 0, 0, n) for n in range(300)]),
                      (1, 1, [(0, 0, 0, 1)]))
        self.assertEqual(len(full[2]), 500)
        fuller = beside((2, 1, many_deeds(300)[2]), (1, 1, []))
        self.assertEqual(fuller, (2, 2, many_deeds(300)[2]))
        self.assertEqual(len(beside((2, 1, []), (1, 1, [(0, 0, 0, n) for n in range(300)]))[2]), 600)

    def test_too_many(self):
        too_many = [
            ((3, 1, []), (67, 1, [])), ((200, 1, []), (2, 1, [])), ((200, 1, []), (200, 1, [])),
            ((1, 4, []), (1, 5, [])), ((1, 8, []), (1, 1, [])), ((1, 8, []), (1, 8, [])),
            ((2, 1, [(0, 0, 0, 1)]), (1, 1, [(0, 0, 0, n) for n in range(300)])),
            ((1, 1, [(0, 0, 0, n) for n in range(301)]), (2, 1, [])),
            ((2, 1, many_deeds(600)[2]), (2, 1, many_deeds(600)[2])),
        ]
        for one, other in too_many:
            with self.subTest(str((one, other))[:60]), self.assertRaises(BadMachine):
                beside(one, other)

    def test_either_is_no_machine(self):
        for one, other in ((BAD, self.OTHER), (self.ONE, BAD), (BAD, BAD), ((0, 1, []), self.ONE),
                           (self.ONE, (0, 1, [])), ((3, 0, []), self.ONE), (self.ONE, (3, 0, []))):
            with self.subTest(str((one, other))), self.assertRaises(BadMachine):
                beside(one, other)

    def test_a_bad_machine_whose_deeds_would_fit_in_the_whole(self):
        # Place 1 of the one, which has a single place, would be a place of the whole.
        with self.assertRaises(BadMachine):
            beside((1, 1, [(0, 0, 1, 1)]), (2, 1, []))
        with self.assertRaises(BadMachine):
            beside((2, 1, []), (1, 1, [(0, 0, 1, 1)]))
        with self.assertRaises(BadMachine):
            beside((1, 1, [(0, 1, 0, 1)]), (1, 1, []))
        with self.assertRaises(BadMachine):
            beside((1, 1, [(0, 0, 0, 2), (0, 0, 0, 1)]), (1, 1, []))


class NothingChanged(unittest.TestCase):  # [0.1]
    def test_what_is_handed_in_stays(self):
        row = [0, 1, 3, 5, 0]
        for ask, given in ((look_machine, [FILLING]), (gone, [FILLING, row]), (cost_of, [FILLING, row]),
                           (reached, [FILLING]), (beside, [FILLING, FILLING])):
            ahead = copy.deepcopy(given)
            ask(*given)
            self.assertEqual(given, ahead, ask.__name__)

    def test_what_is_refused_stays(self):
        turned = (2, 1, [(1, 0, 0, 1), (0, 0, 1, 1)])
        for ask, given in ((look_machine, [turned]), (reached, [turned]), (beside, [turned, turned]),
                           (gone, [FILLING, [0, 5]]), (cost_of, [FILLING, [0, 5]])):
            ahead = copy.deepcopy(given)
            with self.assertRaises((BadMachine, BadRow)):
                ask(*given)
            self.assertEqual(given, ahead, ask.__name__)

    def test_lists_that_are_told_are_new(self):
        for ask, given in ((gone, [FILLING, []]), (gone, [FILLING, [0]]), (reached, [FILLING])):
            told = ask(*given)
            ahead = list(told)
            told.append("spoilt")
            self.assertEqual(ask(*given), ahead, ask.__name__)

    def test_the_deeds_of_two_side_by_side_are_a_new_list(self):
        for one, other in ((FILLING, (1, 1, [])), ((1, 1, []), FILLING)):
            both = beside(one, other)
            both[2].clear()
            self.assertEqual(len(FILLING[2]), 7)
            self.assertEqual(len(beside(one, other)[2]), 7)


if __name__ == "__main__":
    unittest.main()
