import unittest
from itertools import product

from talkmost.draws import (
    are_chances, mean, moved, nested_chances, place, replaced, row_at, rows, size, together, unit,
)

BOUNDS = [
    [], [1], [4], [1, 1, 1], [2, 3], [3, 2], [1, 3, 1, 2], [3, 3, 3], [2, 1, 4, 2],
]
HALF = (1, 2)
THIRD = (1, 3)
ZERO = (0, 1)
ONE = (1, 1)


class RowsTest(unittest.TestCase):
    def test_another_number_in_one_place(self):
        items = [4, 5, 6]
        self.assertEqual([replaced(items, at, 9) for at in range(3)], [[9, 5, 6], [4, 9, 6], [4, 5, 9]])
        self.assertEqual(items, [4, 5, 6])
        for at, row in enumerate(rows([2, 3, 2])):
            for where, bound in enumerate([2, 3, 2]):
                for number in range(bound):
                    wanted = place([2, 3, 2], replaced(row, where, number))
                    self.assertEqual(moved([2, 3, 2], at, where, number), wanted)

    def test_examples(self):
        self.assertEqual(rows([2, 2]), [[0, 0], [0, 1], [1, 0], [1, 1]])
        self.assertEqual(rows([2, 3]), [[0, 0], [0, 1], [0, 2], [1, 0], [1, 1], [1, 2]])

    def test_no_bounds(self):
        self.assertEqual(size([]), 1)
        self.assertEqual(rows([]), [[]])
        self.assertEqual(place([], []), 0)
        self.assertEqual(row_at([], 0), [])

    def test_one_bound(self):
        self.assertEqual(size([4]), 4)
        self.assertEqual(rows([4]), [[0], [1], [2], [3]])
        self.assertEqual(place([4], [3]), 3)
        self.assertEqual(row_at([4], 3), [3])
        self.assertEqual(rows([1]), [[0]])

    def test_the_first_number_goes_slowest(self):
        self.assertEqual(place([2, 3], [0, 2]), 2)
        self.assertEqual(place([2, 3], [1, 0]), 3)
        self.assertEqual(place([1, 3, 1, 2], [0, 2, 0, 1]), 5)
        self.assertEqual(row_at([2, 3], 4), [1, 1])

    def test_all_rows_each_once_in_order(self):
        for bounds in BOUNDS:
            wanted = [list(row) for row in product(*[range(bound) for bound in bounds])]
            self.assertEqual(rows(bounds), wanted)
            self.assertEqual(size(bounds), len(wanted))

    def test_place_and_row_at_are_inverse(self):
        for bounds in BOUNDS:
            for at, row in enumerate(rows(bounds)):
                self.assertEqual(place(bounds, row), at)
                self.assertEqual(row_at(bounds, at), row)

    def test_arguments_stay(self):
        bounds, row = [2, 3], [1, 2]
        size(bounds), rows(bounds), place(bounds, row), row_at(bounds, 5)
        self.assertEqual((bounds, row), ([2, 3], [1, 2]))

    def test_rows_are_lists_of_their_own(self):
        first = rows([1, 2])
        first[0].append(9)
        first.pop()
        self.assertEqual(rows([1, 2]), [[0, 0], [0, 1]])

    def test_many_bounds(self):
        self.assertEqual(size([1] * 3000), 1)
        self.assertEqual(rows([1] * 3000), [[0] * 3000])
        self.assertEqual(len(rows([2] * 10)), 1024)


class ChancesTest(unittest.TestCase):
    def test_unit(self):
        self.assertEqual(unit(0, 1), [ONE])
        self.assertEqual(unit(0, 3), [ONE, ZERO, ZERO])
        self.assertEqual(unit(2, 3), [ZERO, ZERO, ONE])

    def test_are_chances(self):
        for numbers in ([ONE], [HALF, HALF], [ZERO, ONE, ZERO], [THIRD, HALF, (1, 6)]):
            self.assertIs(are_chances(numbers), True)

    def test_are_no_chances(self):
        wrong = [
            [], [ZERO], [HALF], [HALF, THIRD], [HALF, HALF, HALF], [(3, 2), (-1, 2)],
            [(-1, 2), (3, 2)], [(-1, 1)], [(2, 1)], [HALF, HALF, (1, 10 ** 60)],
            [(2, 4), HALF], [(2, 4), (2, 4)], [(1, 0)], [(-1, -1)],
        ]
        for numbers in wrong:
            self.assertIs(are_chances(numbers), False)

    def test_nested_chances(self):
        even = [HALF, HALF]
        self.assertIs(nested_chances(even, [2]), True)
        self.assertIs(nested_chances([[even, even, even], [even, even, even]], [2, 3, 2]), True)
        for nested in (
            [[even, even], [even, even, even]], [[even, even, even]], [[even, even, even], [even, even, [ONE]]],
            [[even, even, even], [even, even, [HALF, THIRD]]], [], [[], []],
        ):
            self.assertIs(nested_chances(nested, [2, 3, 2]), False)

    def test_together_of_no_lists(self):
        self.assertEqual(together([]), [ONE])

    def test_together_of_one_list(self):
        chances = [THIRD, (2, 3)]
        found = together([chances])
        self.assertEqual(found, [THIRD, (2, 3)])
        found.pop()
        self.assertEqual(chances, [THIRD, (2, 3)])

    def test_together_example(self):
        found = together([[HALF, HALF], [THIRD, (2, 3)]])
        self.assertEqual(found, [(1, 6), THIRD, (1, 6), THIRD])

    def test_together_of_several_lists_in_the_order_of_rows(self):
        lists = [[THIRD, (2, 3)], [(1, 5), (4, 5)], [(1, 7), (2, 7), (4, 7)]]
        found = together(lists)
        for at, row in enumerate(rows([2, 2, 3])):
            p, q = 1, 1
            for chances, drawn in zip(lists, row):
                p, q = p * chances[drawn][0], q * chances[drawn][1]
            self.assertEqual(found[at][0] * q, p * found[at][1])
        self.assertEqual(len(found), 12)
        self.assertTrue(are_chances(found))
        self.assertEqual(lists[0], [THIRD, (2, 3)])

    def test_together_with_chances_0_and_1(self):
        self.assertEqual(together([[ZERO, ONE], [HALF, HALF]]), [ZERO, ZERO, HALF, HALF])
        self.assertEqual(together([unit(1, 2), unit(2, 3)]), unit(5, 6))

    def test_mean(self):
        self.assertEqual(mean([], []), ZERO)
        self.assertEqual(mean([ONE], [(-5, 2)]), (-5, 2))
        chances, numbers = [HALF, (1, 4), (1, 4)], [(3, 1), (-2, 1), (1, 3)]
        self.assertEqual(mean(chances, numbers), (13, 12))
        self.assertEqual(chances, [HALF, (1, 4), (1, 4)])
        self.assertEqual(numbers, [(3, 1), (-2, 1), (1, 3)])


if __name__ == "__main__":
    unittest.main()
