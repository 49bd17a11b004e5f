import copy
import inspect
import random
import unittest

from balancehall.errors import HallError, NoSplit
from balancehall.least import least, split
from balancehall.simple import simple
from reckoning import levelled, some_columns, sums, whole

TWENTY = 10 ** 20 - 1


def lists_of_sum(many, total):
    """All lists of so many whole numbers from 0 on that come to the total."""
    if many == 1:
        return [[total]]
    return [[first] + rest for first in range(total + 1) for rest in lists_of_sum(many - 1, total - first)]


def below(small, great):
    return all(one <= other for one, other in zip(small, great))


def searched(columns, most):
    """All least balances up to the sum, found by trying all lists."""
    balances = []
    for total in range(1, most + 1):
        balances += [numbers for numbers in lists_of_sum(len(columns), total) if levelled(numbers, columns)]
    told = []
    # Sums rise here, so a balance has all that may lie below it behind it; and what lies below is above a least one.
    for balance in balances:
        if not any(below(other, balance) for other in told):
            told.append(balance)
    return sorted(told)


class LeastTest(unittest.TestCase):
    def look_at(self, columns, most):
        """Holds what is told against a search and against the simple balances, and gives it back."""
        kept = copy.deepcopy(columns)
        told = least(columns, most)
        self.assertEqual(columns, kept)
        with self.subTest(columns=columns, most=most):
            self.assertTrue(whole(told))
            self.assertIs(type(told), list)
            self.assertEqual(told, searched(columns, most))
            self.assertEqual(told, sorted(told))
            self.assertEqual(len({tuple(balance) for balance in told}), len(told))
            for balance in simple(columns):
                self.assertEqual(balance in told, sum(balance) <= most)
            self.assertEqual(least(columns, most), told)
        return told

    def test_arguments(self):
        self.assertEqual(str(inspect.signature(least)), "(columns, most)")
        self.assertEqual(str(inspect.signature(split)), "(columns, balance)")

    def test_known_columns(self):
        water = [[2, 0], [0, 2], [-2, -1]]
        for most, told in ((0, []), (1, []), (4, []), (5, [[2, 1, 2]]), (6, [[2, 1, 2]]), (8, [[2, 1, 2]])):
            self.assertEqual(self.look_at(water, most), told)
        self.assertEqual(self.look_at([[1], [2], [-3]], 8), [[0, 3, 2], [1, 1, 1], [3, 0, 1]])
        self.assertEqual(self.look_at([[1], [2], [-3]], 4), [[1, 1, 1], [3, 0, 1]])
        self.assertEqual(self.look_at([[1], [2], [-3]], 3), [[1, 1, 1]])
        self.assertEqual(self.look_at([[1], [2], [-3]], 2), [])

    def test_a_least_one_that_is_not_simple(self):
        columns = [[1], [2], [-3]]
        self.assertNotIn([1, 1, 1], simple(columns))
        self.assertIn([1, 1, 1], least(columns, 8))

    def test_most_of_0_and_1(self):
        for columns in ([[0]], [[0], [0]], [[]], [[], []], [[1], [-1]], [[5]], [[0] * 220] * 8):
            self.assertEqual(self.look_at(columns, 0), [])
        self.assertEqual(self.look_at([[0]], 1), [[1]])
        self.assertEqual(self.look_at([[]], 1), [[1]])
        self.assertEqual(self.look_at([[3], [0], [-3], [0]], 1), [[0, 0, 0, 1], [0, 1, 0, 0]])
        self.assertEqual(self.look_at([[1], [-1]], 1), [])

    def test_columns_of_noughts_and_without_rows(self):
        for rows in (0, 1, 3):
            for many in (1, 2, 5, 8):
                units = [[int(place == other) for other in range(many)] for place in reversed(range(many))]
                for most in (1, 3):
                    self.assertEqual(self.look_at([[0] * rows for each in range(many)], most), units)
        self.assertEqual(least([[0]] * 8, 8), [[int(place == 7 - each) for place in range(8)] for each in range(8)])
        self.assertEqual(self.look_at([[0, 0], [1, 2], [-1, -2]], 8), [[0, 1, 1], [1, 0, 0]])

    def test_equal_columns(self):
        self.assertEqual(self.look_at([[1], [1], [-1]], 8), [[0, 1, 1], [1, 0, 1]])
        self.assertEqual(self.look_at([[1], [1], [-2]], 8), [[0, 2, 1], [1, 1, 1], [2, 0, 1]])
        self.assertEqual(self.look_at([[1, 2]] * 4, 8), [])
        column = [2, 4]
        self.assertEqual(self.look_at([column, [-1, -2], column], 8), [[0, 2, 1], [1, 2, 0]])

    def test_one_column(self):
        for column in ([1], [-1], [0, 3], [TWENTY]):
            self.assertEqual(self.look_at([column], 8), [])
        self.assertEqual(self.look_at([[0, 0]], 8), [[1]])

    def test_just_at_the_sum(self):
        self.assertEqual(self.look_at([[3], [-5]], 7), [])
        self.assertEqual(self.look_at([[3], [-5]], 8), [[5, 3]])
        self.assertEqual(self.look_at([[1], [-7]], 8), [[7, 1]])
        self.assertEqual(self.look_at([[1], [-8]], 8), [])
        self.assertEqual(self.look_at([[1], [-8]], 9), [[8, 1]])
        self.assertEqual(self.look_at([[6], [-10]], 8), [[5, 3]])

    def test_one_row_held_against_a_search(self):
        chance = random.Random(41)
        for each in range(60):
            self.look_at(some_columns(chance, chance.randint(1, 5), 1, chance.choice([2, 5, 9])), chance.randint(0, 8))

    def test_several_rows_held_against_a_search(self):
        chance = random.Random(42)
        for each in range(80):
            many = chance.randint(2, 5)
            self.look_at(some_columns(chance, many, chance.randint(2, 4), chance.choice([1, 2])), 8)
        for each in range(40):
            bases = some_columns(chance, 2, chance.randint(3, 6), 2)
            self.look_at(sums(chance, bases, chance.randint(3, 5), 2), chance.randint(5, 8))

    def test_eight_columns_held_against_a_search(self):
        chance = random.Random(43)
        found = []
        for rows, size in ((1, 2), (1, 9), (2, 2), (3, 1), (4, 1)):
            found.append(len(self.look_at(some_columns(chance, 8, rows, size), 8)))
        self.assertGreater(max(found), 20)

    def test_rows_that_say_the_same(self):
        self.assertEqual(self.look_at([[1, 2, 0, -1], [1, 2, 0, -1], [-2, -4, 0, 2]], 8),
                         [[0, 2, 1], [1, 1, 1], [2, 0, 1]])
        self.assertEqual(self.look_at([[0, 0, 1], [0, 0, -1], [0, 5, 0]], 8), [[1, 1, 0]])

    def test_eight_columns_of_many_rows(self):
        chance = random.Random(44)
        columns = some_columns(chance, 7, 220, TWENTY)
        self.assertEqual(least(columns, 8), [])
        columns.append([-sum(column[row] for column in columns) for row in range(220)])
        self.assertEqual(least(columns, 7), [])
        self.assertEqual(least(columns, 8), [[1] * 8])
        bases = some_columns(chance, 2, 220, 10 ** 18)
        shares = some_columns(chance, 8, 2, 2)
        columns = [[one * bases[0][row] + other * bases[1][row] for row in range(220)] for one, other in shares]
        self.assertEqual(least(columns, 8), searched(shares, 8))

    def test_numbers_of_twenty_figures(self):
        self.assertEqual(self.look_at([[TWENTY], [-TWENTY], [TWENTY - 1]], 8), [[1, 1, 0]])
        self.assertEqual(self.look_at([[3 * 10 ** 19], [-4 * 10 ** 19]], 8), [[4, 3]])

    def test_most_beyond_eight(self):
        self.assertEqual(self.look_at([[7], [-5]], 12), [[5, 7]])
        chance = random.Random(45)
        for each in range(5):
            self.look_at(some_columns(chance, 4, 1, 9), 12)

    def test_what_is_given_is_the_askers_own(self):
        columns = [[1], [1], [-1]]
        told = least(columns, 8)
        other = least(columns, 8)
        told[0].append(5)
        told.pop()
        columns[0][0] = 9
        columns.pop()
        self.assertEqual(other, [[0, 1, 1], [1, 0, 1]])
        self.assertEqual(least([[1], [1], [-1]], 8), [[0, 1, 1], [1, 0, 1]])


class SplitTest(unittest.TestCase):
    def look_at(self, columns, balance):
        """Holds what is told against point 15, and gives it back."""
        kept = copy.deepcopy((columns, balance))
        told = split(columns, balance)
        self.assertEqual((columns, balance), kept)
        with self.subTest(columns=columns, balance=balance):
            ones = searched(columns, sum(balance))
            self.assertIs(type(told), list)
            self.assertTrue(whole(told))
            self.assertEqual(len(told), len(ones))
            self.assertTrue(all(times >= 0 for times in told))
            come_to = [sum(times * one[place] for times, one in zip(told, ones)) for place in range(len(columns))]
            self.assertEqual(come_to, balance)
            self.assertEqual(split(columns, balance), told)
        return told

    def look_at_refused(self, columns, numbers):
        kept = copy.deepcopy((columns, numbers))
        with self.subTest(columns=columns, numbers=numbers):
            with self.assertRaises(HallError) as taken:
                split(columns, numbers)
            self.assertIs(type(taken.exception), NoSplit)
            self.assertEqual((columns, numbers), kept)

    def test_known_balances(self):
        water = [[2, 0], [0, 2], [-2, -1]]
        self.assertEqual(self.look_at(water, [2, 1, 2]), [1])
        self.assertEqual(self.look_at([[1], [-1]], [4, 4]), [4])
        self.assertEqual(self.look_at([[0], [0], [5]], [3, 5, 0]), [5, 3])
        self.assertEqual(self.look_at([[]], [8]), [8])
        self.assertEqual(self.look_at([[1], [1], [-1]], [1, 3, 4]), [3, 1])
        self.assertEqual(self.look_at([[2], [3], [-6]], [3, 0, 1]), [0, 1])

    def test_all_noughts(self):
        for columns in ([[0]], [[5]], [[]], [[1], [-1]], [[0, 0]] * 8, [[TWENTY] * 220] * 8):
            self.assertEqual(self.look_at(columns, [0] * len(columns)), [])

    def test_a_least_balance_itself(self):
        chance = random.Random(51)
        for each in range(12):
            columns = some_columns(chance, 5, chance.randint(1, 2), 3)
            for balance in least(columns, 8):
                told = self.look_at(columns, balance)
                self.assertEqual(told, [int(one == balance) for one in least(columns, sum(balance))])

    def test_all_balances_of_a_sum(self):
        chance = random.Random(52)
        seen = 0
        for each in range(25):
            columns = some_columns(chance, chance.randint(1, 5), chance.randint(1, 2), 2)
            for total in (2, 5, 8):
                balances = [numbers for numbers in lists_of_sum(len(columns), total) if levelled(numbers, columns)]
                for balance in chance.sample(balances, min(4, len(balances))):
                    self.look_at(columns, balance)
                    seen += 1
        self.assertGreater(seen, 60)

    def test_sums_of_least_balances(self):
        columns = [[1], [2], [-3], [-1], [3], [0]]
        ones = least(columns, 4)
        chance = random.Random(53)
        for each in range(40):
            pair = [chance.choice(ones), chance.choice(ones)]
            self.look_at(columns, [one + other for one, other in zip(pair[0], pair[1])])

    def test_eight_columns(self):
        columns = [[1], [1], [1], [1], [-1], [-1], [-1], [-1]]
        self.look_at(columns, [1, 1, 1, 1, 1, 1, 1, 1])
        self.look_at(columns, [4, 0, 0, 0, 1, 1, 1, 1])
        self.look_at(columns, [0, 2, 0, 2, 1, 0, 3, 0])

    def test_eight_columns_of_many_rows(self):
        chance = random.Random(54)
        columns = some_columns(chance, 7, 220, TWENTY)
        columns.append([-sum(column[row] for column in columns) for row in range(220)])
        self.assertEqual(split(columns, [1] * 8), [1])
        for numbers in ([1, 1, 1, 1, 1, 1, 1, 0], [2] + [1] * 7, [10 ** 30] * 7 + [10 ** 30 + 1], [-1] * 8):
            self.look_at_refused(columns, numbers)

    def test_a_sum_beyond_eight(self):
        self.look_at([[1], [2], [-3]], [4, 4, 4])
        self.look_at([[1], [-1]], [10, 10])

    def test_numbers_below_0(self):
        for columns, numbers in (
            ([[0]], [-1]), ([[]], [-1]), ([[0], [0]], [-1, 1]), ([[0], [0]], [1, -1]), ([[1], [1]], [1, -1]),
            ([[1], [-1]], [-1, -1]), ([[1], [2], [-3]], [2, -1, 0]), ([[1], [2], [-3]], [-2, 4, 2]),
            ([[0], [0], [0]], [10 ** 40, -1, 0]), ([[0], [0]], [-10 ** 40, 1]), ([[5]], [-1]),
        ):
            self.look_at_refused(columns, numbers)

    def test_numbers_that_do_not_level(self):
        water = [[2, 0], [0, 2], [-2, -1]]
        for numbers in ([1, 0, 0], [1, 1, 2], [2, 1, 3], [2, 0, 2], [0, 1, 0], [4, 1, 3], [0, 0, 1]):
            self.look_at_refused(water, numbers)
        self.look_at_refused([[5]], [1])
        self.look_at_refused([[0, 0, 0, 1], [0, 0, 0, 1]], [1, 1])
        self.look_at_refused([[0, 1], [0, 0]], [1, 7])
        self.look_at_refused([[TWENTY], [1 - TWENTY]], [1, 1])

    def test_numbers_of_a_great_sum(self):
        water = [[2, 0], [0, 2], [-2, -1]]
        for great in (10 ** 6, 10 ** 20, 10 ** 60):
            self.look_at_refused(water, [2 * great, great, 2 * great + 1])
            self.look_at_refused(water, [great, great, great])
            self.look_at_refused([[0], [1]], [great, great])
            self.look_at_refused([[1]] * 8, [great] * 8)
            self.look_at_refused([[1], [1], [0]], [great, -great, great])

    def test_what_is_given_is_the_askers_own(self):
        columns = [[0], [0]]
        balance = [1, 2]
        told = split(columns, balance)
        other = split(columns, balance)
        told.append(7)
        told[0] = 9
        balance[0] = 5
        columns.pop()
        self.assertEqual(other, [2, 1])
        self.assertEqual(split([[0], [0]], [1, 2]), [2, 1])


if __name__ == "__main__":
    unittest.main()
