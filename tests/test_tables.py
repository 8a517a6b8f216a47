import copy
import random
import unittest

from making import as_number
from pursehall.tables import shares_or_weights


class SharesOrWeights(unittest.TestCase):
    def assert_told(self, rows, bounds):
        given = copy.deepcopy((rows, bounds))
        word, told = shares_or_weights(rows, bounds)
        self.assertEqual((rows, bounds), given)
        if word == "shares":
            shares = [as_number(share) for share in told]
            self.assertEqual(len(shares), len(rows[0]))
            self.assertGreaterEqual(min(shares, default=0), 0)
            for row, bound in zip(rows, bounds):
                self.assertLessEqual(sum(one * share for one, share in zip(row, shares)), bound)
        else:
            self.assertEqual(word, "weights")
            self.assertEqual(len(told), len(rows))
            self.assertGreaterEqual(min(told), 0)
            for column in zip(*rows):
                self.assertGreaterEqual(sum(one * weight for one, weight in zip(column, told)), 0)
            self.assertLess(sum(bound * weight for bound, weight in zip(bounds, told)), 0)
        return word

    def test_bounds_that_nothing_already_keeps(self):
        self.assertEqual(shares_or_weights([[1, -1], [5, 2]], [0, 3]), ("shares", [(0, 1), (0, 1)]))

    def test_no_columns(self):
        self.assertEqual(self.assert_told([[], []], [0, 3]), "shares")
        self.assertEqual(self.assert_told([[], []], [1, -1]), "weights")

    def test_a_share_that_is_no_whole_number(self):
        self.assertEqual(shares_or_weights([[-2], [4]], [-1, 2]), ("shares", [(1, 2)]))
        self.assertEqual(self.assert_told([[-2], [5]], [-1, 2]), "weights")

    def test_a_table_that_might_be_gone_round_in_without_end(self):
        # So it is, if of the rows below nought always the one solved for the last column is taken.
        rows = [[2, 0, 3, -5], [4, 3, -1, -3], [-4, -3, -2, -5], [2, 3, 2, -2], [-5, 3, -4, -4]]
        self.assert_told(rows, [1, -4, 5, -2, -2])

    def test_made_tables(self):
        for most in (1, 2, 1000, 10 ** 7):
            words = []
            for seed in range(1500):
                chance = random.Random(seed)
                many = chance.randint(0, 4)
                rows = [[chance.randint(-most, most) for column in range(many)] for row in range(chance.randint(1, 5))]
                bounds = [chance.randint(-1, most) if chance.randrange(3) else -chance.randint(0, most) for row in rows]
                words.append(self.assert_told(rows, bounds))
            self.assertGreater(min(words.count("shares"), words.count("weights")), 150)


if __name__ == "__main__":
    unittest.main()
