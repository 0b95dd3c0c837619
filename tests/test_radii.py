"""Point [26] and what [32] says of cut: radii."""

import unittest
from itertools import product

from samples import Checks

from depthquestions.errors import InvalidNumber
from depthquestions.radii import cut, most_in_ball, near_radius, radius

NO_NUMBERS = [None, True, False, "1", "", (), (1,), [1], [], {}, InvalidNumber(1), 10 ** 29, -10 ** 29, ("some", 1)]
RADII = [0, 1, 4, 13, 40]


class Radii(Checks, unittest.TestCase):
    def test_radius(self):
        self.assert_same([radius(depth) for depth in range(5)], RADII)
        self.assertEqual(radius(depth=3), 13)
        for wrong in [-1, 5, 6, *NO_NUMBERS]:
            self.fails(InvalidNumber, wrong, radius, wrong)

    def test_near_radius(self):
        self.assert_same([near_radius(depth) for depth in range(1, 5)], [1, 3, 9, 27])
        self.assertEqual(near_radius(depth=3), 9)
        for wrong in [-1, 0, 5, *NO_NUMBERS]:
            self.fails(InvalidNumber, wrong, near_radius, wrong)


class MostInBall(Checks, unittest.TestCase):
    def test_values(self):
        for reach in range(41):
            self.assert_same(most_in_ball(0, reach), 1)
            self.assert_same(most_in_ball(1, reach), 1 + 2 * reach)
            self.assert_same(most_in_ball(2, reach), 1 + sum(4 * 3 ** (step - 1) for step in range(1, reach + 1)))
        self.assertEqual([most_in_ball(2, reach) for reach in range(5)], [1, 5, 17, 53, 161])
        self.assertEqual(most_in_ball(reach=3, columns=1), 7)

    def test_errors(self):
        for wrong in [-1, 3, *NO_NUMBERS]:
            self.fails(InvalidNumber, wrong, most_in_ball, wrong, 0)
            self.fails(InvalidNumber, wrong, most_in_ball, wrong, -1)
        for wrong in [-1, 41, *NO_NUMBERS]:
            self.fails(InvalidNumber, wrong, most_in_ball, 1, wrong)


class Cut(Checks, unittest.TestCase):
    def test_values(self):
        for columns, depth, names in product(range(3), range(1, 5), range(5)):
            for level in range(depth):
                within = most_in_ball(columns, 2 * RADII[level] + 1)
                self.assert_same(cut(columns, depth, names, level), (names + depth) * within + 1)
        self.assertEqual([cut(0, 1, 0, 0), cut(1, 1, 0, 0), cut(1, 2, 3, 1), cut(2, 1, 0, 0)], [2, 4, 36, 6])
        self.assertEqual(cut(level=1, names=0, depth=2, columns=1), 15)

    def test_errors(self):
        for wrong in [-1, 3, *NO_NUMBERS]:
            self.fails(InvalidNumber, wrong, cut, wrong, "depth", "names", "level")
        for wrong in [-1, 0, 5, *NO_NUMBERS]:
            self.fails(InvalidNumber, wrong, cut, 2, wrong, "names", "level")
        for wrong in [-1, 5, *NO_NUMBERS]:
            self.fails(InvalidNumber, wrong, cut, 0, 4, wrong, "level")
        for depth in range(1, 5):
            for wrong in [-1, depth, depth + 1, *NO_NUMBERS]:
                self.fails(InvalidNumber, wrong, cut, 1, depth, 0, wrong)


class Example(unittest.TestCase):
    def test_example(self):
        self.assertEqual(
            [[radius(depth) for depth in range(5)], near_radius(2), most_in_ball(1, 3), most_in_ball(2, 2),
             cut(1, 2, 0, 1)],
            [[0, 1, 4, 13, 40], 3, 7, 17, 15])


if __name__ == "__main__":
    unittest.main()
