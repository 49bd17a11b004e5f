import copy
import inspect
import random
import unittest

from balancehall.kernel import Kernel, kernel
from reckoning import bound_places, common, levelled, some_columns, sums, weight, whole

TWENTY = 10 ** 20 - 1


class KernelTest(unittest.TestCase):
    def look_at(self, columns):
        """Holds what is told against each sentence of point 11, and gives it back."""
        kept = copy.deepcopy(columns)
        found = kernel(columns)
        self.assertEqual(columns, kept)
        self.assertIsInstance(found, Kernel)
        self.assertTrue(whole([found.free, found.bound, found.numbers, found.weights]))
        self.assertEqual(found.bound, bound_places(columns))
        self.assertEqual(found.free, [place for place in range(len(columns)) if place not in found.bound])
        self.assertEqual(len(found.numbers), len(found.free))
        self.assertEqual(len(found.weights), len(found.bound))
        for place, numbers in zip(found.free, found.numbers):
            self.look_at_numbers(columns, found, place, numbers)
        for place, weights in zip(found.bound, found.weights):
            self.assertEqual(len(weights), len(columns[0]))
            for other in found.bound:
                if other == place:
                    self.assertGreater(weight(weights, columns[other]), 0)
                else:
                    self.assertEqual(weight(weights, columns[other]), 0)
        # Not in point 11, but `settled` leans on it.
        alike = {weight(weights, columns[place]) for place, weights in zip(found.bound, found.weights)}
        self.assertLessEqual(len(alike), 1)
        return found

    def look_at_numbers(self, columns, found, place, numbers):
        self.assertEqual(len(numbers), len(columns))
        self.assertTrue(levelled(numbers, columns))
        self.assertEqual(common(numbers), 1)
        self.assertGreater(numbers[place], 0)
        self.assertEqual([numbers[other] for other in found.free if other != place], [0] * (len(found.free) - 1))
        self.assertEqual(numbers[place + 1:], [0] * (len(columns) - place - 1))

    def test_fields(self):
        found = kernel([[1, 2], [2, 4], [0, 5]])
        self.assertEqual(sorted(vars(found)), ["bound", "free", "numbers", "weights"])
        self.assertEqual((found.free, found.bound, found.numbers), ([1], [0, 2], [[-2, 1, 0]]))

    def test_arguments(self):
        self.assertEqual(str(inspect.signature(kernel)), "(columns)")

    def test_columns_of_noughts(self):
        for rows in (1, 3):
            for many in (1, 2, 5):
                found = self.look_at([[0] * rows for each in range(many)])
                self.assertEqual((found.free, found.bound), (list(range(many)), []))
                self.assertEqual(found.numbers, [[int(one == other) for one in range(many)] for other in range(many)])
        found = self.look_at([[0, 0], [0, 3], [0, 0], [4, 4], [0, 0]])
        self.assertEqual((found.free, found.bound), ([0, 2, 4], [1, 3]))
        self.assertEqual(found.numbers, [[1, 0, 0, 0, 0], [0, 0, 1, 0, 0], [0, 0, 0, 0, 1]])

    def test_columns_without_rows(self):
        for many in (1, 2, 60):
            found = self.look_at([[] for each in range(many)])
            self.assertEqual((found.free, found.bound), (list(range(many)), []))
            self.assertEqual(found.weights, [])

    def test_one_column(self):
        for column in ([5], [-5], [0, -3], [0, 0, 7, -7], [TWENTY], [0, -TWENTY]):
            found = self.look_at([column])
            self.assertEqual((found.free, found.bound, found.numbers), ([], [0], []))

    def test_sums_with_fractions(self):
        found = self.look_at([[2, 0], [0, 3], [1, 1], [-3, 5]])
        self.assertEqual(found.numbers, [[-3, -2, 6, 0], [9, -10, 0, 6]])
        found = self.look_at([[6], [4], [0], [-9]])
        self.assertEqual(found.numbers, [[-2, 3, 0, 0], [0, 0, 1, 0], [3, 0, 0, 2]])
        self.assertEqual(found.bound, [0])

    def test_equal_and_opposite_columns(self):
        found = self.look_at([[1, 2], [1, 2], [-1, -2], [2, 4]])
        self.assertEqual(found.numbers, [[-1, 1, 0, 0], [1, 0, 1, 0], [-2, 0, 0, 1]])

    def test_the_first_rows_say_nothing(self):
        found = self.look_at([[0, 0, 0, 1], [0, 0, 1, 1], [0, 0, 1, 3], [0, -5, 0, 0], [0, 1, 1, 1]])
        self.assertEqual((found.free, found.bound), ([2, 4], [0, 1, 3]))

    def test_a_change(self):
        found = self.look_at([[1, 4, 0, 0], [0, 0, 2, 0], [-1, 0, -2, 0], [0, -2, -1, 0]])
        self.assertEqual(found.numbers, [[1, 2, 1, 2]])

    def test_all_small_columns(self):
        columns = [[one, other] for one in (-1, 0, 2) for other in (-1, 0, 2)]
        for one in columns:
            for other in columns:
                for third in columns:
                    self.look_at([one, other, third])

    def test_many_columns(self):
        chance = random.Random(11)
        for each in range(400):
            self.look_at(some_columns(chance, chance.randint(1, 7), chance.randint(0, 7), chance.choice([1, 2, 9])))

    def test_few_bound_among_many(self):
        chance = random.Random(12)
        for rank, rows, many in ((1, 5, 6), (2, 2, 9), (3, 10, 6), (4, 20, 12), (5, 5, 20), (7, 30, 10)):
            for each in range(10):
                columns = sums(chance, some_columns(chance, rank, rows, 9), many, 4)
                self.assertLessEqual(len(self.look_at(columns).bound), rank)

    def test_more_rows_than_columns_and_the_other_way_about(self):
        chance = random.Random(13)
        for many, rows in ((3, 220), (60, 3), (12, 13), (13, 12), (60, 1), (1, 220)):
            self.look_at(some_columns(chance, many, rows, 9))

    def test_numbers_of_twenty_figures(self):
        chance = random.Random(14)
        for many, rows in ((2, 2), (5, 5), (8, 5), (5, 8), (12, 10)):
            for each in range(5):
                self.look_at(some_columns(chance, many, rows, TWENTY))
        found = self.look_at([[TWENTY, 1], [TWENTY - 1, 1], [-TWENTY, TWENTY]])
        self.assertEqual(found.free, [2])
        bases = some_columns(chance, 4, 9, 10 ** 15)
        self.assertEqual(len(self.look_at(sums(chance, bases, 9, 10 ** 4)).bound), 4)

    def test_numbers_beyond_twenty_figures(self):
        chance = random.Random(15)
        self.look_at(some_columns(chance, 5, 4, 10 ** 60))

    def test_sixty_columns(self):
        chance = random.Random(16)
        self.look_at(some_columns(chance, 60, 59, 1))
        self.look_at(some_columns(chance, 60, 60, 2))
        bases = some_columns(chance, 20, 220, 99)
        self.assertEqual(len(self.look_at(sums(chance, bases, 60, 9)).bound), 20)
        self.look_at([[int(row == place) - int(row == place + 1) for row in range(60)] for place in range(60)])
        circle = [[int(row == place) - int(row == (place + 1) % 60) for row in range(60)] for place in range(60)]
        self.assertEqual(self.look_at(circle).numbers, [[1] * 60])

    def test_sixty_great_columns(self):
        chance = random.Random(17)
        columns = some_columns(chance, 60, 220, TWENTY)
        columns[59] = [one - 3 * other for one, other in zip(columns[7], columns[30])]
        found = kernel(columns)
        self.assertEqual((found.free, found.bound), ([59], list(range(59))))
        self.assertEqual({place: number for place, number in enumerate(found.numbers[0]) if number},
                         {7: -1, 30: 3, 59: 1})
        for place, weights in zip(found.bound, found.weights):
            self.assertGreater(weight(weights, columns[place]), 0)
            for other in chance.sample([other for other in found.bound if other != place], 8):
                self.assertEqual(weight(weights, columns[other]), 0)

    def test_what_is_given_is_the_askers_own(self):
        columns = [[1, 2], [2, 4], [0, 5], [0, 0]]
        kept = copy.deepcopy(columns)
        first = copy.deepcopy(vars(kernel(columns)))
        found = kernel(columns)
        other = kernel(columns)
        for told in (found.free, found.bound, found.numbers[0], found.numbers, found.weights[0], found.weights):
            told.clear()
        self.assertEqual(columns, kept)
        self.assertEqual(vars(other), first)
        self.assertEqual(vars(kernel(columns)), first)
        columns[0][0] = 7
        columns.pop()
        self.assertEqual(vars(other), first)

    def test_a_kernel_keeps_copies(self):
        lists = [[0], [1], [[1, 0]], [[0, 1]]]
        made = Kernel(lists[0], lists[1], lists[2], lists[3])
        for each in lists:
            each.clear()
        self.assertEqual((made.free, made.bound, made.numbers, made.weights), ([0], [1], [[1, 0]], [[0, 1]]))

    def test_one_column_in_several_places(self):
        column = [1, 2]
        found = self.look_at([column, column, [0, 1], column])
        self.assertEqual(found.free, [1, 3])


if __name__ == "__main__":
    unittest.main()
