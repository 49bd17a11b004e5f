import inspect
import math
import random
import unittest

from balancehall.wholes import divisor, gather, lowest, weigh

GREAT = 10 ** 40 + 7


class DivisorTest(unittest.TestCase):
    def test_noughts(self):
        self.assertEqual(divisor(0, 0), 0)
        for number in (1, 7, GREAT):
            for one, other in ((0, number), (number, 0), (0, -number), (-number, 0)):
                self.assertEqual(divisor(one, other), number)

    def test_small_numbers_of_both_signs(self):
        for one in range(-30, 31):
            for other in range(-30, 31):
                self.assertEqual(divisor(one, other), math.gcd(one, other), (one, other))

    def test_great_numbers(self):
        chance = random.Random(1)
        for figures in (21, 60, 400, 4000):
            shared = chance.randint(1, 10 ** (figures // 3))
            one = shared * chance.randint(1, 10 ** (figures - figures // 3))
            other = -shared * chance.randint(1, 10 ** (figures - figures // 3))
            self.assertEqual(divisor(one, other), math.gcd(one, other))
            self.assertEqual(divisor(other, one), math.gcd(one, other))
        self.assertEqual(divisor(6 * GREAT, -9 * GREAT), 3 * GREAT)

    def test_neighbours_of_the_slowest_row(self):
        one, other = 0, 1
        for each in range(15000):
            one, other = other, one + other
        self.assertEqual(divisor(one * 5, -other * 5), 5)


class LowestTest(unittest.TestCase):
    def test_known_lists(self):
        for numbers, told in (
            ([], []), ([0], [0]), ([0, 0, 0], [0, 0, 0]), ([5], [1]), ([-5], [-1]), ([0, -5, 0], [0, -1, 0]),
            ([2, 4, 6], [1, 2, 3]), ([-2, 4, -6], [-1, 2, -3]), ([2, 3], [2, 3]), ([6, 10, 15], [6, 10, 15]),
            ([0, 6, 0, 9], [0, 2, 0, 3]), ([-6, -9], [-2, -3]), ([6, 9, 1], [6, 9, 1]), ([4, 6, 9], [4, 6, 9]),
            ([2 * GREAT, -3 * GREAT, 0], [2, -3, 0]), ([GREAT], [1]), ([GREAT * 6, 4], [GREAT * 3, 2]),
        ):
            with self.subTest(numbers):
                self.assertEqual(lowest(numbers), told)

    def test_many_lists(self):
        chance = random.Random(2)
        for each in range(300):
            many = chance.randint(1, 6)
            numbers = [chance.choice([0, 1, -1]) * 12 * chance.randint(0, 10 ** 25) for place in range(many)]
            told = lowest(numbers)
            common = math.gcd(*numbers)
            self.assertEqual([number * max(common, 1) for number in told], numbers)
            self.assertIn(math.gcd(*told), (0, 1))

    def test_the_list_handed_in_stays_and_a_new_one_is_given(self):
        for numbers in ([], [0, 0], [2, 4], [2, 3], [-3, 6, 0]):
            kept = list(numbers)
            told = lowest(numbers)
            self.assertIs(type(told), list)
            self.assertIsNot(told, numbers)
            told.append(9)
            self.assertEqual(numbers, kept)
            self.assertEqual(lowest(numbers), told[:-1])


class WeighTest(unittest.TestCase):
    def test_known_weights(self):
        self.assertEqual(weigh([], []), 0)
        self.assertEqual(weigh([3], [5]), 15)
        self.assertEqual(weigh([1, -2, 3], [4, 5, -6]), -24)
        self.assertEqual(weigh([0, 0], [4, 5]), 0)
        self.assertEqual(weigh([GREAT, -GREAT], [GREAT, 1]), GREAT * (GREAT - 1))

    def test_the_lists_stay(self):
        weights, column = [1, 2], [3, 4]
        self.assertEqual([weigh(weights, column), weigh(weights, column)], [11, 11])
        self.assertEqual((weights, column), ([1, 2], [3, 4]))


class GatherTest(unittest.TestCase):
    def test_known_numbers(self):
        self.assertEqual(gather([5], [[1, 0, -2]]), [5, 0, -10])
        self.assertEqual(gather([1, 2, -1], [[1, 0], [0, 1], [3, 5]]), [-2, -3])
        self.assertEqual(gather([2, 1, 2], [[2, 0], [0, 2], [-2, -1]]), [0, 0])
        self.assertEqual(gather([0, 0], [[1], [2]]), [0])
        self.assertEqual(gather([GREAT, 1], [[GREAT, -1], [0, GREAT]]), [GREAT * GREAT, 0])

    def test_columns_without_rows(self):
        self.assertEqual(gather([1], [[]]), [])
        self.assertEqual(gather([1, -2, 3], [[], [], []]), [])

    def test_by_weights_as_by_columns(self):
        chance = random.Random(3)
        for each in range(100):
            rows, many = chance.randint(0, 5), chance.randint(1, 5)
            columns = [[chance.randint(-10 ** 20, 10 ** 20) for row in range(rows)] for place in range(many)]
            numbers = [chance.randint(-9, 9) for place in range(many)]
            weights = [chance.randint(-9, 9) for row in range(rows)]
            total = sum(number * weigh(weights, column) for number, column in zip(numbers, columns))
            self.assertEqual(weigh(weights, gather(numbers, columns)), total)
            self.assertEqual(len(gather(numbers, columns)), rows)

    def test_the_lists_stay_and_a_new_one_is_given(self):
        numbers, columns = [1], [[3, 4]]
        told = gather(numbers, columns)
        told.append(1)
        told[0] = 9
        self.assertEqual((numbers, columns), ([1], [[3, 4]]))
        self.assertEqual(gather(numbers, columns), [3, 4])


class InterfaceTest(unittest.TestCase):
    def test_arguments(self):
        told = [str(inspect.signature(each)) for each in (divisor, lowest, weigh, gather)]
        self.assertEqual(told, ["(one, other)", "(numbers)", "(weights, column)", "(numbers, columns)"])


if __name__ == "__main__":
    unittest.main()
