"""Point 3, hy_tell."""
import unittest

from heads.hydra import answers
from plain_hydra import GREATEST, MOST, cut, line, order, split, start, tell


class Tell(unittest.TestCase):
    def test_after_a_start(self):
        for depths in [[0], [0, 1], [0, 1, 2, 1], [0, 1, 2, 3, 3, 1]]:
            self.assertEqual(answers(line(start(depths), tell())), [1, 0, 1 + len(depths), len(depths)] + depths)

    def test_of_the_most_knots(self):
        for depths in [[0] + [1] * (MOST - 1), list(range(MOST))]:
            self.assertEqual(answers(line(start(depths), tell())), [1, 0, MOST + 1, MOST] + depths)

    def test_after_cuts(self):
        calls = line(start([0, 1, 2, 3]), cut(3, 1), tell(), cut(3, 1), tell(), cut(4, 5), tell())
        found = split(answers(calls))
        self.assertEqual(found[2], [4, 0, 1, 2, 2])
        self.assertEqual(found[4], [5, 0, 1, 2, 1, 2])
        self.assertEqual(found[6], [9, 0, 1, 2, 1, 1, 1, 1, 1, 1])

    def test_after_refusals(self):
        wrong = [start([]), start([0, 2]), cut(0, 0), cut(1, 0), cut(9, 1), cut(2, GREATEST), order([]), order([1])]
        for call in wrong:
            found = split(answers(line(start([0, 1, 2]), call, tell())))
            self.assertEqual(len(found[1]), 1)
            self.assertLess(found[1][0], 0)
            self.assertEqual(found[2], [3, 0, 1, 2])

    def test_changes_nothing(self):
        found = split(answers(line(start([0, 1, 2]), tell(), tell(), tell())))
        self.assertEqual(found[1:], [[3, 0, 1, 2]] * 3)


if __name__ == "__main__":
    unittest.main()
