import copy
import unittest
from fractions import Fraction
from unittest import mock

from games import is_lowest, pair, source
from talkmost import programs
from talkmost.programs import solve

ZERO, ONE, TWO, HALF = (0, 1), (1, 1), (2, 1), (1, 2)
MINUS = (-1, 1)
KINDS = ["least", "equal", "most"]


def plain(numbers):
    return [Fraction(*number) for number in numbers]


def summed(left, right):
    return sum([a * b for a, b in zip(plain(left), plain(right))], Fraction(0))


def of_integers(numbers):
    return [(number, 1) for number in numbers]


def program(costs, lines):
    """A program of integers; a line is the entries, the kind and the right side."""
    return of_integers(costs), [(of_integers(entries), kind, (right, 1)) for entries, kind, right in lines]


class Checked(unittest.TestCase):
    def fits(self, values, costs, lines, rights):
        self.assertEqual(len(values), len(costs))
        self.assertTrue(all(value >= 0 for value in plain(values)))
        for (entries, kind, _), right in zip(lines, rights):
            got = summed(entries, values)
            self.assertTrue({"least": got >= right, "equal": got == right, "most": got <= right}[kind])

    def priced(self, prices, lines, limits):
        """The signs of prices, and that at no column they add up to more than the limit."""
        self.assertEqual(len(prices), len(lines))
        for price, (_, kind, _) in zip(plain(prices), lines):
            self.assertTrue({"least": price >= 0, "equal": True, "most": price <= 0}[kind])
        for at, limit in enumerate(limits):
            self.assertLessEqual(summed(prices, [entries[at] for entries, _, _ in lines]), limit)
        return summed(prices, [right for _, _, right in lines])

    def check(self, costs, lines):
        """Everything that point 31 says of the answer, which is returned."""
        kept = copy.deepcopy((costs, lines))
        found = solve(costs, lines)
        self.assertEqual((costs, lines), kept)
        self.assertTrue(is_lowest(found[1:]))
        rights = plain([right for _, _, right in lines])
        if found[0] == "end":
            _, value, values, prices = found
            self.fits(values, costs, lines, rights)
            self.assertEqual(summed(costs, values), Fraction(*value))
            self.assertEqual(self.priced(prices, lines, plain(costs)), Fraction(*value))
        elif found[0] == "nothing":
            self.assertEqual(len(found), 2)
            self.assertGreater(self.priced(found[1], lines, [0] * len(costs)), 0)
        else:
            name, values, ray = found
            self.assertEqual(name, "falls")
            self.fits(values, costs, lines, rights)
            self.fits(ray, costs, lines, [0] * len(lines))
            self.assertLess(summed(costs, ray), 0)
        return found

    def ends(self, costs, lines, value):
        found = self.check(*program(costs, lines))
        self.assertEqual(found[:2], ("end", value))
        return found

    def answers(self, name, costs, lines):
        self.assertEqual(self.check(*program(costs, lines))[0], name)


class EdgesTest(Checked):
    def test_no_columns_and_no_lines(self):
        self.assertEqual(solve([], []), ("end", ZERO, [], []))

    def test_no_lines(self):
        self.assertEqual(solve([ONE, ZERO], []), ("end", ZERO, [ZERO, ZERO], []))
        self.answers("falls", [1, -1], [])

    def test_no_columns(self):
        for kind in KINDS:
            self.ends([], [([], kind, 0)], ZERO)
        self.ends([], [([], "least", -1), ([], "most", 2)], ZERO)
        self.answers("nothing", [], [([], "least", 1)])
        self.answers("nothing", [], [([], "equal", 1)])
        self.answers("nothing", [], [([], "equal", -1)])
        self.answers("nothing", [], [([], "most", -1), ([], "least", -1)])

    def test_lines_of_zeros_alone(self):
        for kind in KINDS:
            self.ends([1, 2], [([0, 0], kind, 0)], ZERO)
            self.answers("falls", [1, -2], [([0, 0], kind, 0)])
        self.ends([1], [([0], "least", -3), ([0], "most", 3)], ZERO)
        for kind, right in [("least", 1), ("most", -1), ("equal", 1), ("equal", -1)]:
            self.answers("nothing", [-1], [([0], kind, right)])
            self.answers("nothing", [1], [([1], "least", 1), ([0], kind, right)])

    def test_the_same_line_twice(self):
        for kind in KINDS:
            self.ends([1, 1], [([2, 1], "least", 4), ([1, 3], kind, 6), ([1, 3], kind, 6)],
                      TWO if kind == "most" else (14, 5))
        self.ends([1, 1], [([1, 1], "equal", 3), ([1, 1], "equal", 3), ([2, 2], "equal", 6)], (3, 1))
        self.answers("nothing", [1, 1], [([1, 1], "equal", 3), ([1, 1], "equal", 4)])
        self.answers("nothing", [1, 1], [([1, 1], "equal", 4), ([1, 1], "equal", 3)])

    def test_a_line_with_its_opposite(self):
        self.ends([1, -1], [([1, 2], "least", 4), ([-1, -2], "least", -4)], (-2, 1))
        self.ends([1, -1], [([1, 2], "equal", 4), ([-1, -2], "equal", -4)], (-2, 1))
        self.ends([1, -1], [([1, 2], "least", 4), ([1, 2], "most", 4)], (-2, 1))
        self.answers("nothing", [1, -1], [([1, 2], "least", 5), ([-1, -2], "least", -4)])

    def test_right_sides_of_0_and_below(self):
        self.ends([1, 1], [([1, -1], "equal", 0), ([1, 0], "least", 0)], ZERO)
        self.ends([1, 1], [([1, -1], "equal", -2)], TWO)
        self.ends([3, 1], [([-1, -1], "most", -2)], TWO)
        self.ends([-3, 1], [([-1, -1], "least", -2)], (-6, 1))
        self.answers("nothing", [0, 0], [([1, 1], "most", -1)])
        self.answers("nothing", [0, 0], [([1, 1], "equal", -1)])
        self.answers("falls", [-1, 0], [([1, -1], "most", -2)])

    def test_costs_of_0(self):
        self.ends([0, 0], [([1, 1], "least", 1)], ZERO)
        self.ends([0, 0], [], ZERO)

    def test_falling_along_a_line_variable(self):
        self.answers("falls", [-1, 1], [([1, 0], "least", 3)])
        self.answers("falls", [-2, 1], [([1, -1], "most", 3), ([0, 1], "least", 1)])
        self.answers("falls", [-2, 1], [([1, -1], "equal", 3)])
        self.ends([-1, 1], [([1, -1], "equal", 3)], (-3, 1))

    def test_fractions(self):
        found = self.check([(1, 3), (-2, 7)], [([HALF, (1, 5)], "most", (3, 4)), ([ONE, MINUS], "equal", (-1, 6))])
        self.assertEqual(found[0], "end")

    def test_kinds_of_values(self):
        found = solve([ONE], [([TWO], "least", ONE)])
        self.assertEqual(found, ("end", HALF, [HALF], [HALF]))
        found = solve(of_integers([-1]), [(of_integers([2]), "most", (3, 1))])
        self.assertEqual(found, ("end", (-3, 2), [(3, 2)], [(-1, 2)]))

    def test_long_integers(self):
        big = 10 ** 2000
        found = self.check([(1, big), (big, 3)], [([(big, 7), ONE], "least", (1, big + 1)), ([ONE, ONE], "equal", ONE)])
        self.assertEqual(found[0], "end")


class ComingRoundTest(Checked):
    def careless(self):
        """Programs that come round if the greatest fall and the first of equal lines are always taken."""
        beale = ([(-3, 4), (150, 1), (-1, 50), (6, 1)], [
            ([(1, 4), (-60, 1), (-1, 25), (9, 1)], "most", ZERO),
            ([HALF, (-90, 1), (-1, 50), (3, 1)], "most", ZERO),
            ([ZERO, ZERO, ONE, ZERO], "most", ONE)])
        chvatal = ([(-10, 1), (57, 1), (9, 1), (24, 1)], [
            ([HALF, (-11, 2), (-5, 2), (9, 1)], "most", ZERO),
            ([HALF, (-3, 2), (-1, 2), ONE], "most", ZERO),
            ([ONE, ZERO, ZERO, ZERO], "most", ONE)])
        kuhn = program([-2, -3, 1, 12], [
            ([-2, -9, 1, 9], "most", 0), ([1, 3, -1, -6], "most", 0), ([2, 3, -1, -12], "most", 2)])
        return [(beale, (-1, 20)), (chvatal, MINUS), (kuhn, (-2, 1))]

    def test_they_end(self):
        for (costs, lines), value in self.careless():
            self.assertEqual(self.check(costs, lines)[1], value)

    def test_with_care_from_the_start_or_none(self):
        for patience in (-1, 0, 10 ** 6):
            with mock.patch.object(programs, "PATIENCE", patience):
                for (costs, lines), value in self.careless():
                    self.assertEqual(self.check(costs, lines)[1], value)

    def test_all_costs_alike_from_zero_right_sides(self):
        numbers = source(211)
        for n in range(60):
            columns, many = numbers.randint(2, 6), numbers.randint(2, 7)
            lines = [
                ([numbers.choice([-1, 0, 1]) for _ in range(columns)], numbers.choice(KINDS), 0)
                for _ in range(many)
            ]
            lines.append(([1] * columns, "most", 1))
            self.check(*program([-1] * columns, lines))
            self.check(*program([1] * columns, lines))

    def test_a_cube_whose_corners_are_all_worth_a_visit(self):
        for many in range(1, 7):
            costs = [-2 ** (many - 1 - at) for at in range(many)]
            lines = [
                ([2 ** (n - at + 1) for at in range(n)] + [1] + [0] * (many - 1 - n), "most", 5 ** (n + 1))
                for n in range(many)
            ]
            self.ends(costs, lines, (-5 ** many, 1))


class ManyTest(Checked):
    def random(self, numbers, columns, many):
        size, filled = numbers.choice([1, 2, 5, 99, 12345]), numbers.choice([0.4, 0.7, 1])

        def number():
            top = numbers.randint(-size, size) if numbers.random() < filled else 0
            return pair(Fraction(top, numbers.choice([1, 1, 2, 3, 10])))

        lines = [([number() for _ in range(columns)], numbers.choice(KINDS), number()) for _ in range(many)]
        if many > 1 and numbers.random() < 0.2:
            entries, kind, right = lines[0]
            lines[-1] = (list(entries), kind, right)
        if many > 1 and numbers.random() < 0.2:
            entries, kind, right = lines[0]
            lines[-1] = ([(-p, q) for p, q in entries], kind, (-right[0], right[1]))
        return [number() for _ in range(columns)], lines

    def all_sizes(self, seed, times):
        numbers = source(seed)
        names = {"end": 0, "nothing": 0, "falls": 0}
        for columns in range(7):
            for many in range(8):
                for _ in range(times):
                    names[self.check(*self.random(numbers, columns, many))[0]] += 1
        return names

    def test_all_sizes(self):
        self.assertGreater(min(self.all_sizes(212, 25).values()), 150)

    def test_all_sizes_with_the_least_index_alone(self):
        with mock.patch.object(programs, "PATIENCE", -1):
            self.assertGreater(min(self.all_sizes(213, 6).values()), 30)

    def test_all_sizes_without_nudges(self):
        with mock.patch.object(programs, "nudge", lambda at: 0), mock.patch.object(programs, "PATIENCE", 3):
            self.assertGreater(min(self.all_sizes(214, 6).values()), 30)

    def test_middle_sizes_without_nudges(self):
        numbers = source(215)
        with mock.patch.object(programs, "nudge", lambda at: 0), mock.patch.object(programs, "PATIENCE", 1):
            for _ in range(25):
                columns, many = numbers.randint(5, 12), numbers.randint(5, 12)
                lines = [
                    ([numbers.choice([-2, -1, 0, 0, 1, 2]) for _ in range(columns)], numbers.choice(KINDS[::2]), 0)
                    for _ in range(many)
                ]
                lines.append(([1] * columns, "equal", 1))
                self.check(*program([numbers.choice([-1, 0, 1]) for _ in range(columns)], lines))

    def planted(self, seed, columns, many, filled):
        """A program which values that were chosen before fit."""
        numbers = source(seed)
        values = [numbers.choice([0, 0, 1, 2, 5]) for _ in range(columns)]
        lines = []
        for _ in range(many):
            entries = [numbers.randint(-9, 9) if numbers.random() < filled else 0 for _ in range(columns)]
            right = sum([entry * value for entry, value in zip(entries, values)])
            kind = numbers.choice(["least", "most", "least", "most", "equal"])
            slack = numbers.choice([0, 3, 20])
            lines.append((entries, kind, right + {"least": -slack, "equal": 0, "most": slack}[kind]))
        return [numbers.randint(0, 9) for _ in range(columns)], lines

    def test_120_columns_and_200_lines(self):
        costs, lines = self.planted(216, 120, 200, 0.04)
        self.answers("end", costs, lines)
        lines[-1] = (lines[0][0], "least", 10 ** 9)
        lines[-2] = (lines[0][0], "most", 10 ** 8)
        self.answers("nothing", costs, lines)

    def test_120_columns_and_200_lines_from_zero(self):
        numbers = source(217)
        lines = [([numbers.randint(0, 99) for _ in range(120)], "most", numbers.randint(1000, 9999)) for _ in range(200)]
        self.answers("end", [-numbers.randint(1, 99) for _ in range(120)], lines)
        lines = [(entries[:-1] + [-1], kind, right) for entries, kind, right in lines]
        self.answers("falls", [-1] * 120, lines)

    def test_40_columns_and_60_lines_of_all_kinds(self):
        for seed in range(218, 222):
            costs, lines = self.planted(seed, 40, 60, 0.5)
            self.answers("end", costs, lines)


if __name__ == "__main__":
    unittest.main()
