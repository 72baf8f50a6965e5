"""Powers in balance: promises 1 to 3 as far as an item's equations can show them, what holds, and the corners."""

import random
import unittest

from helper import Diagonal, product, solvable
from sheetunits.balance import solved
from sheetunits.refusals import NotAlike, NotRight, TooLarge

TOLD = 2 ** 20
LIMIT = 2 ** 30


def refusal(equations, count):
    try:
        solved(equations, count, 7)
    except (NotAlike, NotRight, TooLarge) as error:
        return [error.number, error.at]
    return None


class Corners(unittest.TestCase):
    def assert_solved(self, equations, count, filling):
        given = [list(equation) for equation in equations]
        self.assertEqual(solved(given, count, 0), filling)
        self.assertEqual(given, equations)
        turned = [[0 - exponent for exponent in equation] for equation in equations]
        self.assertEqual(solved(turned, count, 0), filling)
        self.assertEqual(solved(equations + turned + equations, count, 0), filling)

    def test_no_equation(self):
        self.assert_solved([], 0, [])
        self.assert_solved([], 3, [product([], [1]), product([], [0, 1]), product([], [0, 0, 1])])
        self.assertEqual(len(solved([], 24, 0)), 24)

    def test_no_place(self):
        self.assert_solved([product()], 0, [])
        self.assertEqual(refusal([product([1])], 0), [-61, 7])
        self.assertEqual(refusal([product(), product([0] * 7 + [-1])], 0), [-61, 7])

    def test_two_p_and_a_mark(self):
        self.assertEqual(refusal([product([1], [2])], 1), [-61, 7])
        self.assertEqual(refusal([product([-1], [-2])], 1), [-61, 7])
        self.assert_solved([product([2], [2])], 1, [product([-1])])
        self.assert_solved([product([4, -6], [2])], 1, [product([-2, 3])])

    def test_two_p_and_three_q(self):
        self.assert_solved([product([], [2, 3])], 2, [product([], [3]), product([], [-2])])
        self.assert_solved([product([], [3, 2])], 2, [product([], [0, -2]), product([], [0, 3])])

    def test_six_ten_fifteen(self):
        self.assert_solved([product([], [6, 10, 15])], 3,
                           [product([], [5, 0, -5]), product([], [0, 0, -3]), product([], [-2, 0, 4])])

    def test_a_place_in_no_equation(self):
        self.assert_solved([product([], [0, 1])], 3, [product([], [1]), product(), product([], [0, 0, 1])])

    def test_nearest_to_zero_and_of_several_the_first(self):
        self.assert_solved([product([], [1, 1])], 2, [product([], [0, -1]), product([], [0, 1])])
        self.assert_solved([product([], [-1, 1])], 2, [product([], [0, 1]), product([], [0, 1])])
        self.assert_solved([product([], [2, -1, 1])], 3,
                           [product([], [1]), product([], [2, 0, 1]), product([], [0, 0, 1])])

    def test_rounded_down(self):
        # 2 goes into -3 less often than -1 times; by -2 into 3 likewise.
        self.assert_solved([product([], [2, -3])], 2, [product([], [-3]), product([], [-2])])
        self.assert_solved([product([-3], [2, 5])], 2, solved([product([3], [-2, -5])], 2, 0))

    def test_marks_are_divided_with_the_places(self):
        self.assert_solved([product([1], [2, 3])], 2, [product([1], [3]), product([-1], [-2])])


class Bounds(unittest.TestCase):
    def test_exponents_of_equations_at_their_bounds(self):
        self.assertEqual(solved([product([TOLD], [1])], 1, 0), [product([0 - TOLD])])
        self.assertEqual(solved([product([0 - TOLD], [1])], 1, 0), [product([TOLD])])
        self.assertEqual(solved([product([], [TOLD])], 1, 0), [product()])
        self.assertEqual(solved([product([], [0 - TOLD])], 1, 0), [product()])
        self.assertEqual(solved([product([], [0] * 23 + [TOLD])], 24, 0)[23], product())

    def test_exponents_of_equations_beyond_their_bounds(self):
        for beyond in (TOLD + 1, 0 - TOLD - 1, LIMIT, 2 * LIMIT):
            self.assertEqual(refusal([product([beyond], [1])], 1), [-22, 7])
            self.assertEqual(refusal([product([0] * 7 + [beyond], [1])], 1), [-22, 7])
            self.assertEqual(refusal([product([], [beyond])], 1), [-22, 7])
            self.assertEqual(refusal([product([], [0] * 23 + [beyond])], 24), [-22, 7])
            self.assertEqual(refusal([product([1]), product([], [beyond])], 1), [-22, 7])

    def test_what_is_left_of_an_equation(self):
        first = product([0 - TOLD], [1])
        self.assertEqual(solved([first, product([], [-1024, 1])], 2, 0), [product([TOLD]), product([LIMIT])])
        self.assertEqual(refusal([first, product([-1], [-1024, 1])], 2), [-75, 7])
        self.assertEqual(refusal([first, product([1], [1024, 1])], 2), [-75, 7])
        self.assertEqual(solved([first, product([], [1024, 1])], 2, 0), [product([TOLD]), product([0 - LIMIT])])

    def test_what_comes_after_a_refused_equation_is_not_looked_at(self):
        large = [product([0 - TOLD], [1]), product([], [-2048, 1])]
        self.assertEqual(refusal(large + [product([1])], 2), [-75, 7])
        self.assertEqual(refusal([product([1])] + large, 2), [-61, 7])


class WhatHolds(unittest.TestCase):
    """Small systems, many of them, judged by whole-number algebra of another make."""

    def setUp(self):
        self.random = random.Random(20261116)

    def system(self):
        count = self.random.randint(0, 4)
        marks = self.random.randint(0, 2)
        size = self.random.choice((1, 2, 4, 9))

        def number():
            return self.random.choice((0, self.random.randint(0 - size, size)))
        equations = [product([number() for mark in range(marks)], [number() for place in range(count)])
                     for equation in range(self.random.randint(0, 4))]
        return equations, count

    def has_filling(self, equations, count):
        rows = [equation[8:8 + count] for equation in equations]
        return all(solvable(rows, count, [0 - equation[mark] for equation in equations]) for mark in range(8))

    def filled_in(self, equation, filling):
        result = equation[:8] + [0] * 24
        for exponent, given in zip(equation[8:], filling):
            result = [have + exponent * more for have, more in zip(result, given)]
        return result

    def test_it_solves_and_is_the_most_general_or_none_does(self):
        answers = {True: 0, False: 0}
        for trial in range(3000):
            equations, count = self.system()
            has_one = self.has_filling(equations, count)
            answers[has_one] += 1
            if not has_one:
                self.assertEqual(refusal(equations, count), [-61, 7], equations)
                continue
            filling = solved(equations, count, 0)
            self.assertEqual(len(filling), count)
            for equation in equations:
                self.assertEqual(self.filled_in(equation, filling), product())
            self.assert_all_others_come_of(filling, equations, count)
        self.assertGreater(min(answers.values()), 500)

    def assert_all_others_come_of(self, filling, equations, count):
        # The places' exponents span all that solves the equations without marks: as many, and none a multiple.
        rank = Diagonal([equation[8:8 + count] for equation in equations], count).rank
        self.assertEqual(Diagonal([given[8:] for given in filling], 24).diagonal(), [1] * (count - rank))

    def test_what_is_told_again_changes_nothing(self):
        for trial in range(500):
            equations, count = self.system()
            if not equations or not self.has_filling(equations, count):
                continue
            by = [self.random.randint(-2, 2) for equation in equations]
            again = [sum(a * b for a, b in zip(by, column)) for column in zip(*equations)]
            self.assertEqual(solved(equations + [again] + equations, count, 0), solved(equations, count, 0))


if __name__ == "__main__":
    unittest.main()
