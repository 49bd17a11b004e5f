import copy
import inspect
import itertools
import random
import unittest

from balancehall.simple import simple
from reckoning import common, levelled, some_columns, sums, whole

TWENTY = 10 ** 20 - 1


def places(balance):
    return {place for place, number in enumerate(balance) if number != 0}


def searched(columns, most):
    """All simple balances whose numbers are at most so great, found by trying all numbers."""
    tried = itertools.product(range(most + 1), repeat=len(columns))
    balances = [numbers for numbers in tried if any(numbers) and levelled(numbers, columns)]
    supports = {frozenset(places(balance)) for balance in balances}
    least = {support for support in supports if not any(other < support for other in supports)}
    return sorted(list(each) for each in balances if frozenset(places(each)) in least and common(each) == 1)


class SimpleTest(unittest.TestCase):
    def look_at(self, columns):
        """Holds each told balance against point 12, and gives all back."""
        kept = copy.deepcopy(columns)
        told = simple(columns)
        self.assertEqual(columns, kept)
        self.assertTrue(whole(told))
        self.assertIs(type(told), list)
        self.assertEqual(told, sorted(told))
        for balance in told:
            self.assertEqual(len(balance), len(columns))
            self.assertTrue(levelled(balance, columns))
            self.assertGreaterEqual(min(balance), 0)
            self.assertGreater(max(balance), 0)
            self.assertEqual(common(balance), 1)
        for one, other in itertools.permutations(told, 2):
            self.assertNotEqual(one, other)
            self.assertFalse(places(one) <= places(other), (one, other))
        return told

    def hold_against_search(self, columns, most):
        with self.subTest(columns):
            self.assertEqual(self.look_at(columns), searched(columns, most))

    def test_arguments(self):
        self.assertEqual(str(inspect.signature(simple)), "(columns)")

    def test_known_columns(self):
        water = [[2, 0], [0, 2], [-2, -1]]
        self.assertEqual(self.look_at(water), [[2, 1, 2]])
        self.assertEqual(self.look_at([[1], [-1]]), [[1, 1]])
        self.assertEqual(self.look_at([[1], [1]]), [])
        self.assertEqual(self.look_at([[5]]), [])
        self.assertEqual(self.look_at([[4], [-6]]), [[3, 2]])
        self.assertEqual(self.look_at([[2], [3], [-6]]), [[0, 2, 1], [3, 0, 1]])
        self.assertEqual(self.look_at([[1, 4, 0], [0, 0, 2], [-1, 0, -2], [0, -2, -1]]), [[1, 2, 1, 2]])

    def test_one_row_of_great_numbers(self):
        told = self.look_at([[TWENTY], [10 ** 19], [-TWENTY], [-3 * 10 ** 19], [0]])
        self.assertEqual(told, [
            [0, 0, 0, 0, 1],
            [0, 3, 0, 1, 0],
            [0, TWENTY, 10 ** 19, 0, 0],
            [1, 0, 1, 0, 0],
            [10 ** 19, 0, 0, TWENTY // 3, 0],
        ])

    def test_columns_without_rows(self):
        for many in (1, 2, 5, 8):
            told = [[int(place == other) for other in range(many)] for place in reversed(range(many))]
            self.assertEqual(self.look_at([[] for each in range(many)]), told)

    def test_columns_of_noughts(self):
        self.assertEqual(self.look_at([[0]]), [[1]])
        self.assertEqual(self.look_at([[0, 0], [0, 0]]), [[0, 1], [1, 0]])
        self.assertEqual(self.look_at([[0, 0], [1, 0], [-2, 0]]), [[0, 2, 1], [1, 0, 0]])
        self.assertEqual(self.look_at([[0, 0], [1, 0], [0, -2]]), [[1, 0, 0]])

    def test_equal_columns(self):
        self.assertEqual(self.look_at([[1], [1], [-1]]), [[0, 1, 1], [1, 0, 1]])
        self.assertEqual(self.look_at([[1, 2], [1, 2], [1, 2]]), [])
        column = [3, -1]
        self.assertEqual(self.look_at([column, [-3, 1], column, [-3, 1]]),
                         [[0, 0, 1, 1], [0, 1, 1, 0], [1, 0, 0, 1], [1, 1, 0, 0]])

    def test_levelled_by_both_signs_alone(self):
        self.assertEqual(self.look_at([[1, 0], [0, 1], [1, 1]]), [])
        self.assertEqual(self.look_at([[1, 0], [0, 1], [1, 1], [-1, -1]]), [[0, 0, 1, 1], [1, 1, 0, 1]])

    def test_no_column_at_all_is_used(self):
        self.assertEqual(self.look_at([[1, 1], [0, 1], [-1, 1], [2, 1]]), [])

    def test_one_row_held_against_a_search(self):
        chance = random.Random(21)
        for each in range(40):
            self.hold_against_search(some_columns(chance, chance.randint(1, 4), 1, 6), 6)
        for columns in itertools.product([[-2], [-1], [0], [3]], repeat=3):
            self.hold_against_search(list(columns), 3)

    def test_several_rows_held_against_a_search(self):
        chance = random.Random(22)
        for each in range(60):
            self.hold_against_search(some_columns(chance, chance.randint(2, 4), 2, 2), 8)
        for each in range(60):
            self.hold_against_search(some_columns(chance, chance.randint(3, 5), chance.choice([3, 3, 2]), 1), 4)

    def test_sums_held_against_a_search(self):
        chance = random.Random(23)
        for each in range(40):
            bases = [[int(row == place) for row in range(5)] for place in chance.sample(range(5), 2)]
            self.hold_against_search(sums(chance, bases, 4, 2), 8)

    def test_eight_columns_held_against_a_search(self):
        chance = random.Random(24)
        for each in range(6):
            self.hold_against_search(some_columns(chance, 8, 1, 1), 1)
            self.hold_against_search(some_columns(chance, 8, 2, 1), 2)

    def test_eight_columns_of_many_rows(self):
        chance = random.Random(25)
        bases = some_columns(chance, 3, 220, 10 ** 16)
        columns = sums(chance, bases, 7, 9)
        columns.append([-sum(column[row] for column in columns) for row in range(220)])
        told = self.look_at(columns)
        self.assertGreater(len(told), 1)
        self.assertEqual(set.union(*[places(balance) for balance in told]), set(range(8)))
        self.assertEqual(self.look_at(some_columns(chance, 8, 220, TWENTY)), [])

    def test_eight_great_columns(self):
        chance = random.Random(26)
        for rows in (1, 2, 4, 7):
            columns = some_columns(chance, 7, rows, 10 ** 19)
            columns.append([-sum(column[row] for column in columns) for row in range(rows)])
            told = self.look_at(columns)
            self.assertEqual(set.union(*[places(balance) for balance in told]), set(range(8)))

    def test_pairs_of_one_row(self):
        numbers = [3, 5, 7, 11, -13, -17, -19, -23]
        told = self.look_at([[number] for number in numbers])
        pairs = [sorted(places(balance)) for balance in told]
        self.assertEqual(sorted(pairs), [[one, other] for one in range(4) for other in range(4, 8)])

    def test_what_is_given_is_the_askers_own(self):
        columns = [[1], [1], [-1]]
        told = simple(columns)
        other = simple(columns)
        told[0].append(5)
        told.pop()
        columns[0][0] = 9
        columns.pop()
        self.assertEqual(other, [[0, 1, 1], [1, 0, 1]])
        self.assertEqual(simple([[1], [1], [-1]]), [[0, 1, 1], [1, 0, 1]])
        self.assertEqual(simple([[9], [1]]), simple(columns))


if __name__ == "__main__":
    unittest.main()
