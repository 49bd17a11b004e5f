import copy
import inspect
import itertools
import random
import unittest

from balancehall.settled import settled
from balancehall.simple import simple
from reckoning import common, levelled, some_columns, sums, weight, whole

TWENTY = 10 ** 20 - 1


class SettledTest(unittest.TestCase):
    def look_at(self, columns):
        """Holds the told pair against each sentence of point 13, and gives the places used by the balance."""
        kept = copy.deepcopy(columns)
        told = settled(columns)
        self.assertEqual(columns, kept)
        self.assertIs(type(told), tuple)
        self.assertEqual(len(told), 2)
        balance, weights = told
        self.assertIs(type(balance), list)
        self.assertIs(type(weights), list)
        self.assertTrue(whole([balance, weights]))
        self.assertEqual(len(balance), len(columns))
        self.assertEqual(len(weights), len(columns[0]))
        self.assertGreaterEqual(min(balance), 0)
        self.assertTrue(levelled(balance, columns))
        for number, column in zip(balance, columns):
            self.assertGreaterEqual(weight(weights, column), 0)
            self.assertNotEqual(number > 0, weight(weights, column) > 0)
        self.assertEqual(common(balance), 1 if any(balance) else 0)
        self.assertEqual(common(weights), 1 if any(weights) else 0)
        self.assertEqual(settled(columns), told)
        return [place for place, number in enumerate(balance) if number > 0]

    def look_at_beside_simple(self, columns):
        with self.subTest(columns):
            used = self.look_at(columns)
            balances = simple(columns)
            self.assertEqual(used, [place for place in range(len(columns)) if any(each[place] for each in balances)])
        return used

    def test_arguments(self):
        self.assertEqual(str(inspect.signature(settled)), "(columns)")

    def test_one_column(self):
        self.assertEqual(settled([[5]]), ([0], [1]))
        self.assertEqual(settled([[-5]]), ([0], [-1]))
        self.assertEqual(settled([[0]]), ([1], [0]))
        self.assertEqual(settled([[0, -TWENTY, 0]]), ([0], [0, -1, 0]))
        for column in ([1, 2], [2, -4, 6], [0, 0, -7], [TWENTY], [-TWENTY, TWENTY - 1]):
            self.assertEqual(self.look_at([column]), [])

    def test_columns_without_rows(self):
        for many in (1, 2, 5, 8):
            self.assertEqual(self.look_at([[] for each in range(many)]), list(range(many)))
        self.assertEqual(settled([[]]), ([1], []))

    def test_columns_of_noughts(self):
        for rows in (1, 3, 220):
            for many in (1, 2, 8):
                columns = [[0] * rows for each in range(many)]
                self.assertEqual(self.look_at(columns), list(range(many)))
                self.assertEqual(settled(columns)[1], [0] * rows)
        self.assertEqual(self.look_at([[0, 0], [1, 0], [0, 0], [2, 3]]), [0, 2])
        self.assertEqual(self.look_at([[1, 0], [0, 0], [-1, 0]]), [0, 1, 2])

    def test_one_row_of_mixed_signs(self):
        self.assertEqual(self.look_at([[4], [-6]]), [0, 1])
        self.assertEqual(self.look_at([[4], [-6], [0], [9]]), [0, 1, 2, 3])
        self.assertEqual(self.look_at([[4], [6], [0]]), [2])
        self.assertEqual(self.look_at([[-4], [-6]]), [])
        self.assertEqual(settled([[4], [6]]), ([0, 0], [1]))
        self.assertEqual(settled([[4], [-6]]), ([3, 2], [0]))
        for columns in itertools.product([[-3], [-1], [0], [2]], repeat=4):
            self.look_at_beside_simple(list(columns))

    def test_all_columns_are_used(self):
        self.assertEqual(self.look_at([[2, 0], [0, 2], [-2, -1]]), [0, 1, 2])
        self.assertEqual(settled([[2, 0], [0, 2], [-2, -1]]), ([2, 1, 2], [0, 0]))
        self.assertEqual(self.look_at([[1, 4, 0], [0, 0, 2], [-1, 0, -2], [0, -2, -1]]), [0, 1, 2, 3])
        self.assertEqual(self.look_at([[1, 0], [0, 1], [-1, 0], [0, -1], [1, 1]]), [0, 1, 2, 3, 4])

    def test_no_column_is_used(self):
        self.assertEqual(self.look_at([[1, 0], [0, 1]]), [])
        self.assertEqual(self.look_at([[1, 1], [0, 1], [-1, 1], [2, 1]]), [])
        self.assertEqual(self.look_at([[1, 0], [0, 1], [1, 1]]), [])
        self.assertEqual(self.look_at([[5, -1], [-2, 1], [1, 0]]), [])

    def test_some_columns_are_used(self):
        self.assertEqual(self.look_at([[1, 0], [-1, 0], [0, 1]]), [0, 1])
        self.assertEqual(self.look_at([[1, 0], [-1, 0], [5, 1], [-5, 1]]), [0, 1])
        self.assertEqual(self.look_at([[0, 0, 3], [1, 1, 0], [-1, 0, 0], [0, -2, 0], [7, 7, 7]]), [1, 2, 3])
        # Levelled only with both signs at the last two: neither can be used.
        self.assertEqual(self.look_at([[1, 0, 0], [-1, 0, 0], [0, 1, 0], [2, 3, 0]]), [0, 1])

    def test_equal_columns(self):
        column = [3, -1]
        self.assertEqual(self.look_at([column, column]), [])
        self.assertEqual(self.look_at([column, [-3, 1], column, [3, -1]]), [0, 1, 2, 3])
        self.assertEqual(self.look_at([[1, 2]] * 8), [])
        self.assertEqual(self.look_at([[0, 0]] * 3 + [[1, 1]] * 3), [0, 1, 2])

    def test_columns_that_are_one_anothers_negative(self):
        self.assertEqual(settled([[1, 2], [-1, -2]]), ([1, 1], [0, 0]))
        self.assertEqual(self.look_at([[1, 2], [-1, -2], [2, 1], [-2, -1]]), [0, 1, 2, 3])
        self.assertEqual(self.look_at([[1, 2], [2, 1], [-1, -2]]), [0, 2])

    def test_columns_that_none_uses_lie_in_more_than_one_layer(self):
        # By one row alone the second column weighs nothing; it takes several weights, one far above the other.
        self.assertEqual(self.look_at([[1, -9], [0, 1], [0, 1]]), [])
        self.assertEqual(self.look_at([[1, -9, -9], [0, 1, -9], [0, 0, 1], [0, 0, 0]]), [3])

    def test_all_small_columns(self):
        columns = [[one, other] for one in (-1, 0, 1) for other in (-1, 0, 2)]
        for chosen in itertools.product(columns, repeat=3):
            self.look_at_beside_simple([list(column) for column in chosen])

    def test_many_columns_beside_simple(self):
        chance = random.Random(31)
        for each in range(200):
            many = chance.randint(1, 8)
            self.look_at_beside_simple(some_columns(chance, many, chance.randint(0, 5), chance.choice([1, 2, 9])))

    def test_sums_beside_simple(self):
        chance = random.Random(32)
        seen = {}
        for each in range(120):
            bases = some_columns(chance, chance.randint(1, 3), chance.randint(3, 6), 2)
            columns = sums(chance, bases, chance.randint(3, 6), 2)
            columns += some_columns(chance, chance.randint(0, 2), len(columns[0]), 1)
            seen[0 < len(self.look_at_beside_simple(columns)) < len(columns)] = True
        self.assertEqual(seen, {True: True, False: True})

    def test_eight_columns(self):
        chance = random.Random(33)
        for rows in (1, 2, 3, 4, 5, 6, 7, 8, 9):
            for each in range(3):
                self.look_at_beside_simple(some_columns(chance, 8, rows, 2))

    def test_numbers_of_twenty_figures(self):
        self.assertEqual(settled([[TWENTY], [-(TWENTY - 1)]]), ([TWENTY - 1, TWENTY], [0]))
        self.assertEqual(self.look_at([[TWENTY, 1], [-TWENTY, TWENTY], [0, -TWENTY]]), [0, 1, 2])
        self.assertEqual(self.look_at([[TWENTY, 1], [TWENTY - 1, 1], [-TWENTY, TWENTY]]), [])
        chance = random.Random(34)
        for rows in (1, 2, 4, 6, 7, 8):
            columns = some_columns(chance, 7, rows, 10 ** 19)
            self.look_at(columns)
            columns.append([-sum(column[row] for column in columns) for row in range(rows)])
            self.assertEqual(self.look_at(columns), list(range(8)))

    def test_eight_columns_of_many_rows(self):
        chance = random.Random(35)
        self.assertEqual(self.look_at(some_columns(chance, 8, 220, TWENTY)), [])
        bases = some_columns(chance, 3, 220, 10 ** 16)
        columns = sums(chance, bases, 6, 9)
        columns.append([-sum(column[row] for column in columns) for row in range(220)])
        self.assertEqual(self.look_at(columns), list(range(7)))
        columns.insert(3, some_columns(chance, 1, 220, TWENTY)[0])
        self.assertEqual(self.look_at(columns), [0, 1, 2, 4, 5, 6, 7])

    def test_numbers_beyond_twenty_figures(self):
        chance = random.Random(36)
        for rows in (1, 3, 5):
            self.look_at(some_columns(chance, 6, rows, 10 ** 60))

    def test_what_is_given_is_the_askers_own(self):
        columns = [[1, 0], [-1, 0], [0, 3]]
        told = settled(columns)
        other = settled(columns)
        told[0].append(5)
        told[1].clear()
        columns[0][0] = 9
        columns.pop()
        self.assertEqual(other, ([1, 1, 0], [0, 1]))
        self.assertEqual(settled([[1, 0], [-1, 0], [0, 3]]), ([1, 1, 0], [0, 1]))


if __name__ == "__main__":
    unittest.main()
