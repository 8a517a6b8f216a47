import copy
import random
import time
import unittest
from fractions import Fraction

from making import (FAR, QUEUE_LINES, QUEUE_PRICES, QUEUE_PURSE, as_number, as_pair, behind_deed, can_fail,
                    duties_by_hand, is_failing_point, is_paper, made_lines, worth)
from pursehall.errors import BadForm
from pursehall.lines import fails_at, settled, shows

NOUGHT = (0, 1)
ONE = (1, 1)
# By number: 0 to 2 of the first deed, 3 to 5 of the second, 6 to 8 of the third, 9 of the purse.
QUEUE = (QUEUE_LINES, QUEUE_PRICES, QUEUE_PURSE)
QUEUE_PAPERS = [
    ("line", []), ("line", []), ("line", []),
    ("line", [NOUGHT]), ("line", [NOUGHT]), ("line", [ONE]),
    ("line", [NOUGHT, NOUGHT]), ("line", [NOUGHT, NOUGHT]), ("line", [NOUGHT, ONE]),
    ("line", []),
]


def one_deed(guards, form):
    # One number, that stays as it is; the duty is that the form is from nought on under the guards.
    return (1, [(guards, [(1, 0)], tuple(-number for number in form))]), [0], (0, 0)


def papers_for(paper, guards):
    return [paper, ("line", [NOUGHT] * guards), ("line", [])]


def spoilt(form, number):
    # The form with the number in each of its places in turn.
    return [form[:at] + (number,) + form[at + 1:] for at in range(len(form))]


def with_deed(deed):
    return (2, [QUEUE_LINES[1][0], deed, QUEUE_LINES[1][2]])


def large_lines(seed):
    # Four numbers, eight deeds, four guards each. Each form is made up of shares of the guards and
    # something more, so that all duties hold, but seldom for the eye.
    chance = random.Random(seed)
    purse = (1, 0, 2, 0, 9)
    deeds, prices = [], []
    for number in range(8):
        guards = [tuple(chance.randint(-90, 90) for at in range(5)) for guard in range(4)]

        def held(scale):
            parts = [chance.randint(0, 1) for guard in guards]
            return [sum(part * guard[at] for part, guard in zip(parts, guards)) * scale + chance.randint(0, 9)
                    for at in range(5)]

        changes = [held(Fraction(1, 3)) for change in range(4)]
        changes = [tuple(int(number) + 1 for number in change) for change in changes]
        over = held(1)
        price = chance.randint(-1000, 1000)
        behind = [sum(purse[n] * changes[n][at] for n in range(4)) for at in range(5)]
        cost = [purse[at] - behind[at] - over[at] for at in range(4)] + [price - behind[4] - over[4]]
        deeds.append((guards, changes, tuple(max(-1000, min(1000, int(number))) for number in cost)))
        prices.append(price)
    return (4, deeds), prices, purse


class BadForms(unittest.TestCase):  # [5.1], [5.2]
    def ask_all(self, lines, prices, purse):
        return [lambda: settled(lines, prices, purse), lambda: shows(lines, prices, purse, QUEUE_PAPERS),
                lambda: shows(lines, prices, purse, []), lambda: fails_at(lines, prices, purse, 0, [NOUGHT]),
                lambda: fails_at(lines, prices, purse, -1, [])]

    def assert_good(self, lines, prices, purse):
        for ask in self.ask_all(lines, prices, purse):
            ask()

    def assert_bad(self, lines, prices=QUEUE_PRICES, purse=QUEUE_PURSE):
        for ask in self.ask_all(lines, prices, purse):
            with self.subTest(lines=lines, prices=prices, purse=purse), self.assertRaises(BadForm):
                ask()

    def test_how_many_numbers(self):
        for many in (1, 2, 3, 4):
            form = (0,) * (many + 1)
            self.assert_good((many, [([form], [form] * many, form)]), [0], form)
        for many in (0, 5):
            form = (0,) * (many + 1)
            self.assert_bad((many, [([form], [form] * many, form)]), [0], form)
        for many in (-1, 1, 3, FAR, -FAR, True):
            self.assert_bad((many, QUEUE_LINES[1]))

    def test_how_many_deeds(self):
        deed = QUEUE_LINES[1][0]
        for many in (1, 2, 8):
            self.assert_good((2, [deed] * many), [0] * many, QUEUE_PURSE)
        for many in (0, 9, 20):
            self.assert_bad((2, [deed] * many), [0] * many)

    def test_how_many_guards(self):
        for many in (0, 1, 4):
            self.assert_good(with_deed(([(1, 2, 3)] * many,) + QUEUE_LINES[1][0][1:]), QUEUE_PRICES, QUEUE_PURSE)
        for many in (5, 6):
            self.assert_bad(with_deed(([(1, 2, 3)] * many,) + QUEUE_LINES[1][0][1:]))

    def test_how_many_changes(self):
        for many in (0, 1, 3):
            self.assert_bad(with_deed(([], [(1, 0, 1)] * many, (0, 0, 1))))

    def test_lengths_of_forms(self):
        good = (1, 0, 1)
        for bad in ((), (1,), (1, 0), (1, 0, 1, 0)):
            self.assert_bad(with_deed(([bad], [good, good], good)))
            self.assert_bad(with_deed(([good, bad], [good, good], good)))
            self.assert_bad(with_deed(([], [bad, good], good)))
            self.assert_bad(with_deed(([], [good, bad], good)))
            self.assert_bad(with_deed(([], [good, good], bad)))
            self.assert_bad(QUEUE_LINES, QUEUE_PRICES, bad)

    def test_numbers_of_forms(self):
        good = (1, 0, 1)
        for number in (1000, -1000):
            for form in spoilt(good, number):
                self.assert_good(with_deed(([good, form], [good, form], form)), QUEUE_PRICES, form)
        for number in (1001, -1001, FAR, -FAR, True):
            for form in spoilt(good, number):
                self.assert_bad(with_deed(([good, form], [good, good], good)))
                self.assert_bad(with_deed(([good], [form, good], good)))
                self.assert_bad(with_deed(([good], [good, form], good)))
                self.assert_bad(with_deed(([good], [good, good], form)))
                self.assert_bad(QUEUE_LINES, QUEUE_PRICES, form)

    def test_prices(self):
        for price in (1000, -1000):
            for prices in spoilt((3, 1, 1), price):
                self.assert_good(QUEUE_LINES, list(prices), QUEUE_PURSE)
        for price in (1001, -1001, FAR, -FAR, False):
            for prices in spoilt((3, 1, 1), price):
                self.assert_bad(QUEUE_LINES, list(prices))
        for prices in ([], [3, 1], [3, 1, 1, 1], (3, 1, 1)):
            self.assert_bad(QUEUE_LINES, prices)

    def test_other_forms(self):
        good = (1, 0, 1)
        for lines in ([2, QUEUE_LINES[1]], (2,), (2, QUEUE_LINES[1], 0), (2, tuple(QUEUE_LINES[1])), None,
                      with_deed([[], [good, good], good]), with_deed(([], [good, good])),
                      with_deed(([], [good, good], good, good)), with_deed(((), [good, good], good)),
                      with_deed(([], (good, good), good)), with_deed(([list(good)], [good, good], good)),
                      with_deed(([], [good, list(good)], good)), with_deed(([], [good, good], list(good)))):
            self.assert_bad(lines)
        self.assert_bad(QUEUE_LINES, QUEUE_PRICES, list(good))

    def test_a_bad_deed_behind_good_ones(self):
        self.assert_bad((2, QUEUE_LINES[1][:2] + [([], [(1, 0, 1), (0, 1, 0)], (0, 0, 1001))]))

    def test_all_is_looked_at_ahead_of_papers_and_points(self):
        for papers in ([], [("other", [])]):
            with self.assertRaises(BadForm):
                shows(QUEUE_LINES, [3, 1], QUEUE_PURSE, papers)
        for number in (-1, 0, 99):
            with self.assertRaises(BadForm):
                fails_at(QUEUE_LINES, QUEUE_PRICES, (2, 0), number, [])


class Duties(unittest.TestCase):  # [5.2]
    def assert_fails(self, lines, prices, purse, number):
        told = settled(lines, prices, purse)
        self.assertEqual(told[:2], ("fails", number))
        self.assertTrue(is_failing_point(lines[0], duties_by_hand(lines, prices, purse)[number], told[2]))

    def test_one_after_the_other(self):
        self.assertEqual(settled(*QUEUE)[0], "pays")
        for number, prices in ((0, [2, 1, 1]), (3, [3, 0, 1]), (6, [3, 1, 0])):
            self.assert_fails(QUEUE_LINES, prices, QUEUE_PURSE, number)
        for number, change in ((1, 0), (2, 1)):
            for deed in range(3):
                deeds = [(guards, list(changes), (0, 0, 0)) for guards, changes, cost in QUEUE_LINES[1]]
                deeds[deed][1][change] = (0, 0, -1)
                self.assert_fails((2, deeds), [0, 0, 0], (0, 0, 0), 3 * deed + number)
        self.assert_fails(QUEUE_LINES, QUEUE_PRICES, (2, 0, -1), 9)

    def test_the_first_that_does_not_hold(self):
        self.assert_fails(QUEUE_LINES, [2, 0, 0], (2, 0, -1), 0)
        self.assert_fails(QUEUE_LINES, [3, 0, 0], (2, 0, -1), 3)
        self.assert_fails(QUEUE_LINES, [3, 1, 0], (2, 0, -1), 6)

    def test_the_last_of_all(self):
        stay = [(1, 0, 0), (0, 1, 0)]
        lines = (2, [([], stay, (0, 0, 0)), ([], stay, (0, 0, 0))])
        for purse in ((-1, 0, 0), (0, -1, 5), (3, 3, -1), (-1, 1000, 1000)):
            self.assert_fails(lines, [0, 0], purse, 6)
        self.assertEqual(settled(lines, [0, 0], (0, 0, 0))[0], "pays")

    def test_the_purse_is_owed_under_no_guards(self):
        lines = (1, [([(1, -5)], [(1, 0)], (0, 0))])
        self.assert_fails(lines, [0], (1, -5), 2)
        self.assertEqual(settled(lines, [0], (1, 0))[0], "pays")

    def test_the_last_number_of_the_purse_stands_on_both_sides(self):
        for last in (0, 7, 1000):
            self.assertEqual(settled(QUEUE_LINES, QUEUE_PRICES, (2, 0, last))[0], "pays")
            self.assert_fails(QUEUE_LINES, [2, 1, 1], (2, 0, last), 0)

    def test_prices_below_nought(self):
        # Each deed takes one off, and so gives back what the purse has for it.
        down = (1, [([(1, -1)], [(1, -1)], (0, 0))])
        for many in (3, 4, 1000):
            self.assertEqual(settled(down, [-3], (many, 0))[0], "pays")
        self.assert_fails(down, [-3], (2, 0), 0)

    def test_costs_below_nought(self):
        down = (1, [([(1, -1)], [(1, -1)], (0, -3))])
        self.assertEqual(settled(down, [-3], (0, 0))[0], "pays")
        self.assertEqual(settled(down, [-4], (1, 0))[0], "pays")
        self.assert_fails(down, [-4], (0, 0), 0)


class Papers(unittest.TestCase):  # [5.3], [5.4]
    def assert_shown(self, duty, paper, whether):
        asked = one_deed(*duty)
        self.assertIs(shows(*asked, papers_for(paper, len(duty[0]))), whether)

    def test_by_line_with_no_guards(self):
        for form, whether in (((0, 0), True), ((1, 0), True), ((0, 1), True), ((-1, 1), False), ((1, -1), False)):
            self.assert_shown(([], form), ("line", []), whether)

    def test_by_none_with_no_guards(self):
        for form in ((0, 0), (5, 5), (-1, 0)):
            self.assert_shown(([], form), ("none", []), False)

    def test_by_line(self):
        # From 2 on a number, 3 times less 5, is 1 or more.
        duty = ([(1, -2)], (3, -5))
        for share, whether in (((5, 2), True), ((3, 1), True), ((14, 5), True), ((12, 5), False), ((16, 5), False),
                               ((2, 1), False), ((4, 1), False), (NOUGHT, False), ((FAR, 1), False), ((5, FAR), False)):
            self.assert_shown(duty, ("line", [share]), whether)
            self.assert_shown(duty, ("none", [share]), False)

    def test_each_number_and_the_last_one(self):
        lines = (3, [([(1, 2, 3, 4)], [(1, 0, 0, 0), (0, 1, 0, 0), (0, 0, 1, 0)], (0, 0, 0, 0))])
        rest = [("line", [NOUGHT])] * 3 + [("line", [])]
        for at in range(4):
            for less, whether in ((0, True), (1, False), (-1, True)):
                form = [1, 2, 3, 4]
                form[at] -= less
                machine = (3, [(lines[1][0][0], lines[1][0][1], tuple(-number for number in form))])
                self.assertIs(shows(machine, [0], (0, 0, 0, 0), [("line", [ONE])] + rest), whether)

    def test_guards_that_no_point_keeps(self):
        duty = ([(-1, -2)], (-7, -9))
        for share, whether in (((1, 2), True), (ONE, True), ((FAR, 1), True), ((1, 3), False), (NOUGHT, False)):
            self.assert_shown(duty, ("none", [share]), whether)
        self.assert_shown(duty, ("line", [(7, 1)]), True)
        self.assert_shown(duty, ("line", [ONE]), False)
        # Two guards that no point keeps both: from 3 on, and up to 2.
        both = ([(1, -3), (-1, 2)], (0, -1))
        for shares, whether in (([ONE, ONE], True), ([(2, 1), (2, 1)], True), ([ONE, (2, 1)], False),
                                ([(2, 1), ONE], False), ([(1, 2), (1, 2)], False), ([ONE, NOUGHT], False),
                                ([(3, 2), (3, 2)], True), ([(4, 1), (5, 1)], True), ([(5, 1), (4, 1)], False)):
            self.assert_shown(both, ("none", shares), whether)

    def test_guards_of_no_number_alone(self):
        self.assert_shown(([(0, -1)], (0, -3)), ("none", [ONE]), True)
        self.assert_shown(([(0, -1)], (0, -3)), ("none", [(1, 2)]), False)
        self.assert_shown(([(0, 0)], (0, -3)), ("none", [(FAR, 1)]), False)
        self.assert_shown(([(1, -1)], (0, -3)), ("none", [ONE]), False)

    def test_shares_below_nought(self):
        for share in ((-1, 1), (-1, FAR), (-FAR, 1)):
            self.assert_shown(([(-1, 0)], (1, 0)), ("line", [share]), False)
            self.assert_shown(([(0, 1)], (0, 0)), ("none", [share]), False)
            self.assert_shown(([(0, 0), (0, 1)], (0, 0)), ("line", [NOUGHT, share]), False)

    def test_shares_of_another_count(self):
        duty = ([(1, -2), (0, 0)], (1, -2))
        self.assert_shown(duty, ("line", [ONE, NOUGHT]), True)
        for shares in ([], [ONE], [ONE, NOUGHT, NOUGHT]):
            self.assert_shown(duty, ("line", shares), False)
        self.assert_shown(([], (1, 1)), ("line", [NOUGHT]), False)
        none = ([(0, -1), (0, 0)], (0, -1))
        self.assert_shown(none, ("none", [ONE, NOUGHT]), True)
        for shares in ([], [ONE], [ONE, NOUGHT, NOUGHT]):
            self.assert_shown(none, ("none", shares), False)

    def test_another_word(self):
        for word in ("", "Line", "lines", "point", "pays", "non"):
            self.assert_shown(([], (1, 1)), (word, []), False)
            self.assert_shown(([(0, -1)], (1, 1)), (word, [ONE]), False)

    def test_papers_one_for_each_duty_in_turn(self):
        self.assertIs(shows(*QUEUE, QUEUE_PAPERS), True)
        for at in range(10):
            self.assertIs(shows(*QUEUE, QUEUE_PAPERS[:at] + QUEUE_PAPERS[at + 1:]), False)
            self.assertIs(shows(*QUEUE, QUEUE_PAPERS[:at] + QUEUE_PAPERS[at:at + 1] + QUEUE_PAPERS[at:]), False)
            for word in ("none", "other"):
                changed = list(QUEUE_PAPERS)
                changed[at] = (word, changed[at][1])
                self.assertIs(shows(*QUEUE, changed), False)
        self.assertIs(shows(*QUEUE, []), False)
        self.assertIs(shows(*QUEUE, QUEUE_PAPERS + [("line", [])]), False)
        turned = QUEUE_PAPERS[3:6] + QUEUE_PAPERS[:3] + QUEUE_PAPERS[6:]
        self.assertIs(shows(*QUEUE, turned), False)

    def test_papers_for_what_does_not_pay(self):
        for prices in ([2, 1, 1], [3, 0, 1], [3, 1, 0]):
            self.assertIs(shows(QUEUE_LINES, prices, QUEUE_PURSE, QUEUE_PAPERS), False)
        self.assertIs(shows(QUEUE_LINES, QUEUE_PRICES, (2, 0, -1), QUEUE_PAPERS), False)
        self.assertIs(shows(QUEUE_LINES, QUEUE_PRICES, (1, 0, 0), QUEUE_PAPERS), False)

    def test_made_papers_against_a_second_answer(self):
        seen = {True: 0, False: 0}
        for seed in range(400):
            chance = random.Random(seed)
            lines, prices, purse = made_lines(seed, 3, 3)
            told = settled(lines, prices, purse)
            if told[0] == "pays":
                duties = duties_by_hand(lines, prices, purse)
                at = chance.randrange(len(duties))
                shares = [as_pair(Fraction(chance.randint(-1, 8), chance.randint(1, 3))) for guard in duties[at][0]]
                paper = (chance.choice(["line", "line", "none"]), shares)
                whether = is_paper(lines[0], duties[at], paper)
                seen[whether] += 1
                self.assertIs(shows(lines, prices, purse, told[1][:at] + [paper] + told[1][at + 1:]), whether)
        self.assertGreater(min(seen.values()), 30)


class FailsAt(unittest.TestCase):  # [5.4]
    def test_points_where_the_form_is_below_nought(self):
        # The price of a deed that takes all from behind is one too low.
        asked = (QUEUE_LINES, [3, 1, 0], QUEUE_PURSE)
        for behind in (ONE, (3, 2), (FAR, 1)):
            self.assertIs(fails_at(*asked, 6, [behind, NOUGHT]), True)
        # Points that do not keep the guards.
        for point in ([NOUGHT, NOUGHT], [ONE, ONE], [(1, 2), NOUGHT], [ONE, (1, FAR)]):
            self.assertIs(fails_at(*asked, 6, point), False)
        # Duties that hold there.
        for number in (0, 1, 2, 3, 4, 5, 7, 8, 9):
            self.assertIs(fails_at(*asked, number, [ONE, NOUGHT]), False)

    def test_nought_is_not_below_nought(self):
        asked = one_deed([(1, -2)], (2, -7))
        for at, whether in (((2, 1), True), ((7, 2), False), ((3, 1), True), ((17, 5), True), ((18, 5), False),
                            ((19, 10), False), ((FAR, 2), False)):
            self.assertIs(fails_at(*asked, 0, [at]), whether)

    def test_numbers_that_no_duty_has(self):
        asked = (QUEUE_LINES, QUEUE_PRICES, (2, 0, -1))
        point = [NOUGHT, NOUGHT]
        self.assertIs(fails_at(*asked, 9, point), True)
        for number in (-1, -10, 10, 11, FAR, -FAR):
            self.assertIs(fails_at(*asked, number, point), False)
        below = one_deed([], (0, -1))
        self.assertIs(fails_at(*below, 0, [NOUGHT]), True)
        for number in (-3, -1, 3, 4):
            self.assertIs(fails_at(*below, number, [NOUGHT]), False)

    def test_points_of_another_length(self):
        stay = (2, [([], [(1, 0, 0), (0, 1, 0)], (1, 1, 1))])
        for number, purse in ((0, (0, 0, 0)), (3, (-1, -1, -1))):
            self.assertIs(fails_at(stay, [0], purse, number, [ONE, ONE]), True)
            for point in ([], [ONE], [ONE] * 3, [ONE] * 4, [NOUGHT], [NOUGHT] * 3, [NOUGHT] * 2 + [ONE]):
                self.assertIs(fails_at(stay, [0], purse, number, point), False)

    def test_points_below_nought(self):
        asked = (QUEUE_LINES, QUEUE_PRICES, QUEUE_PURSE)
        for number in ((-1, 1), (-1, FAR), (-FAR, 1)):
            self.assertIs(fails_at(*asked, 9, [number, NOUGHT]), False)
            self.assertIs(fails_at(QUEUE_LINES, QUEUE_PRICES, (0, 0, -1), 9, [NOUGHT, number]), False)

    def test_a_later_duty_that_fails_too(self):
        asked = (QUEUE_LINES, [2, 0, 0], (2, 0, -1))
        for number, point in ((0, [NOUGHT, NOUGHT]), (3, [NOUGHT, ONE]), (6, [ONE, NOUGHT]), (9, [NOUGHT, NOUGHT])):
            self.assertIs(fails_at(*asked, number, point), True)

    def test_against_a_second_answer(self):
        seen = {True: 0, False: 0}
        for seed in range(300):
            chance = random.Random(seed)
            lines, prices, purse = made_lines(seed, 3, 5)
            for number, duty in enumerate(duties_by_hand(lines, prices, purse)):
                point = [as_pair(Fraction(chance.randint(0, 9), chance.randint(1, 3))) for at in range(lines[0])]
                whether = is_failing_point(lines[0], duty, point)
                seen[whether] += 1
                self.assertIs(fails_at(lines, prices, purse, number, point), whether)
        self.assertGreater(min(seen.values()), 100)


class Settled(unittest.TestCase):  # [5.4], [0.2]
    def assert_told(self, lines, prices, purse):
        told = settled(lines, prices, purse)
        duties = duties_by_hand(lines, prices, purse)
        self.assertIsInstance(told, tuple)
        if told[0] == "pays":
            self.assertEqual(len(told), 2)
            self.assertEqual(len(told[1]), len(duties))
            for duty, paper in zip(duties, told[1]):
                self.assert_fractions(paper[1])
                self.assertTrue(is_paper(lines[0], duty, paper))
            self.assertIs(shows(lines, prices, purse, told[1]), True)
        else:
            self.assertEqual((told[0], len(told)), ("fails", 3))
            self.assert_fractions(told[2])
            self.assertTrue(is_failing_point(lines[0], duties[told[1]], told[2]))
            self.assertIs(fails_at(lines, prices, purse, told[1], told[2]), True)
        return told

    def assert_fractions(self, pairs):
        self.assertIsInstance(pairs, list)
        for pair in pairs:
            self.assertIsInstance(pair, tuple)
            self.assertEqual(pair, as_pair(as_number(pair)))

    def test_a_queue(self):
        self.assertEqual(self.assert_told(*QUEUE)[0], "pays")
        self.assertEqual(self.assert_told(QUEUE_LINES, [4, 1, 1], QUEUE_PURSE)[0], "pays")
        for price in (2, 1, 0, -1000):
            self.assertEqual(self.assert_told(QUEUE_LINES, [price, 1, 1], QUEUE_PURSE)[:2], ("fails", 0))
        for purse in ((1, 0, 0), (0, 0, 0), (0, 2, 0)):
            self.assertEqual(self.assert_told(QUEUE_LINES, QUEUE_PRICES, purse)[0], "fails")

    def test_a_shelf_that_doubles(self):
        # (items over half of the places, places left): a shelf of twice their sum.
        lines = (2, [([(0, 1, -1)], [(1, 0, 1), (0, 1, -1)], (0, 0, 1)),
                     ([(1, 0, -1), (0, -1, 0)], [(0, 0, 1), (2, 0, -1)], (2, 0, 1))])
        self.assertEqual(self.assert_told(lines, [3, 3], (2, 0, 0))[0], "pays")
        self.assertEqual(self.assert_told(lines, [3, 2], (2, 0, 0))[:2], ("fails", 3))
        self.assertEqual(self.assert_told(lines, [2, 3], (2, 0, 0))[:2], ("fails", 0))
        self.assertEqual(self.assert_told(lines, [2, 3], (1, 0, 0))[:2], ("fails", 3))

    def test_a_form_that_only_falls_below_nought_far_out(self):
        for guards, form in (([], (-1, 1000)), ([(1, -7)], (-1, 1000)), ([(1, -1000), (1, 0)], (-1, 1000)),
                             ([(3, -1000)], (-1, 900))):
            told = self.assert_told(*one_deed(guards, form))
            self.assertEqual(told[:2], ("fails", 0))
            self.assertGreater(as_number(told[2][0]), 900)

    def test_a_way_out_from_a_point_that_is_not_nought(self):
        # The second number must be from 5 on; the first may go on without end.
        stay = [(1, 0, 0), (0, 1, 0)]
        lines = (2, [([(0, 1, -5)], stay, (1, -1, 0))])
        self.assertEqual(self.assert_told(lines, [0], (0, 0, 0))[:2], ("fails", 0))
        # It holds if the first can't go beyond the second.
        lines = (2, [([(0, 1, -5), (-1, 1, 0)], stay, (1, -1, 0))])
        self.assertEqual(self.assert_told(lines, [0], (0, 0, 0))[0], "pays")

    def test_points_of_no_whole_numbers(self):
        # The form is below nought between 1/3 and 1/2 alone, as the guards have it.
        told = self.assert_told(*one_deed([(3, -1), (-2, 1)], (-7, 3)))
        self.assertEqual(told[:2], ("fails", 0))
        self.assertTrue(Fraction(3, 7) < as_number(told[2][0]) <= Fraction(1, 2))

    def test_a_form_that_just_touches_nought(self):
        for guards, form in (([(3, -1)], (3, -1)), ([(3, -1)], (6, -2)), ([(7, -3)], (2, 0)), ([(2, -1)], (1000, -500))):
            self.assertEqual(self.assert_told(*one_deed(guards, form))[0], "pays")
        self.assertEqual(self.assert_told(*one_deed([(2, -1)], (999, -500)))[0], "fails")

    def test_guards_that_no_point_keeps(self):
        told = self.assert_told(*one_deed([(1, -3), (-1, 2)], (-1, -1)))
        self.assertEqual(told[0], "pays")
        told = self.assert_told(*one_deed([(0, -1)], (-5, 5)))
        self.assertEqual((told[0], told[1][0][0]), ("pays", "none"))
        # They can be kept at one point alone.
        self.assertEqual(self.assert_told(*one_deed([(1, -3), (-1, 3)], (-1, 2))), ("fails", 0, [(3, 1)]))
        self.assertEqual(self.assert_told(*one_deed([(1, -3), (-1, 3)], (-1, 3)))[0], "pays")
        self.assertEqual(self.assert_told(*one_deed([(-1, 0)], (-1, -1))), ("fails", 0, [NOUGHT]))

    def test_made_lines_against_a_second_answer(self):
        ended = {"pays": 0, "fails": 0, "line": 0, "none": 0}
        for seed in range(1200):
            asked = made_lines(seed, 4 if seed % 4 == 0 else 3, [1, 2, 5, 1000][seed // 4 % 4])
            told = self.assert_told(*asked)
            ended[told[0]] += 1
            duties = duties_by_hand(*asked)
            failing = [number for number, duty in enumerate(duties) if can_fail(asked[0][0], duty)]
            if told[0] == "pays":
                self.assertEqual(failing, [])
                for paper in told[1]:
                    ended[paper[0]] += 1
            else:
                self.assertEqual(told[1], failing[0])
        self.assertGreater(min(ended.values()), 10)
        self.assertGreater(min(ended["pays"], ended["fails"]), 300)

    def test_never_both(self):
        for seed in range(300):
            chance = random.Random(seed)
            asked = made_lines(seed, 3, 3)
            told = settled(*asked)
            duties = duties_by_hand(*asked)
            for number in range(len(duties)):
                if told[0] == "pays":
                    point = [as_pair(Fraction(chance.randint(0, 50), chance.randint(1, 3))) for at in range(asked[0][0])]
                    self.assertIs(fails_at(*asked, number, point), False)
                else:
                    papers = [("line", [as_pair(chance.randint(0, 2)) for guard in duty[0]]) for duty in duties]
                    self.assertIs(shows(*asked, papers), False)

    def test_rows_of_deeds_of_what_pays_cost_no_more_than_their_prices(self):
        steps = 0
        for seed in range(300):
            chance = random.Random(seed)
            lines, prices, purse = [QUEUE, made_lines(seed, 3, 5)][seed % 2]
            if settled(lines, prices, purse)[0] == "pays":
                state = [Fraction(chance.randint(0, 20), chance.randint(1, 3)) for at in range(lines[0])]
                had, paid, cost = worth(purse, state), 0, 0
                for step in range(12):
                    able = [n for n, deed in enumerate(lines[1]) if all(worth(g, state) >= 0 for g in deed[0])]
                    if able:
                        number = chance.choice(able)
                        paid += prices[number]
                        cost += worth(lines[1][number][2], state)
                        state = behind_deed(lines[1][number], state)
                        steps += 1
                        self.assertGreaterEqual(min(state), 0)
                        self.assertGreaterEqual(worth(purse, state), 0)
                        self.assertLessEqual(cost, had + paid - worth(purse, state))
        self.assertGreater(steps, 1000)

    def test_large_numbers_in_seconds(self):
        begin = time.monotonic()
        most = 0
        for seed in range(40):
            lines, prices, purse = large_lines(seed)
            told = self.assert_told(lines, prices, purse)
            most = max(most, len(told[1]) if told[0] == "pays" else told[1])
            chance = random.Random(seed)

            def form():
                return tuple(chance.choice([-1000, -999, 997, 1000, chance.randint(-1000, 1000)]) for at in range(5))

            deeds = [([form() for guard in range(4)], [form() for change in range(4)], form()) for deed in range(8)]
            self.assert_told((4, deeds), [chance.randint(-1000, 1000) for deed in deeds], form())
        self.assertEqual(most, 41)
        self.assertLess(time.monotonic() - begin, 30)


class NothingChanged(unittest.TestCase):  # [0.1]
    def test_what_is_handed_in_stays(self):
        failing = [QUEUE_LINES, [3, 1, 0], QUEUE_PURSE]
        for ask, given in ((settled, list(QUEUE)), (settled, failing), (settled, list(one_deed([], (-1, 1000)))),
                           (shows, [*QUEUE, QUEUE_PAPERS]), (shows, [*failing, QUEUE_PAPERS]),
                           (fails_at, [*failing, 6, [ONE, NOUGHT]]), (fails_at, [*failing, 6, [ONE, ONE]])):
            ahead = copy.deepcopy(given)
            ask(*given)
            self.assertEqual(given, ahead, ask.__name__)

    def test_lists_that_are_told_are_new(self):
        told = settled(*QUEUE)
        ahead = copy.deepcopy(told)
        for paper in told[1]:
            paper[1].append("spoilt")
            self.assertEqual(paper[1].count("spoilt"), 1)
        told[1].append("spoilt")
        self.assertEqual(settled(*QUEUE), ahead)
        told = settled(QUEUE_LINES, [3, 1, 0], QUEUE_PURSE)
        ahead = copy.deepcopy(told)
        told[2].append("spoilt")
        self.assertEqual(settled(QUEUE_LINES, [3, 1, 0], QUEUE_PURSE), ahead)


if __name__ == "__main__":
    unittest.main()
