"""Point 1, hy_start."""
import unittest

from heads.hydra import answers
from plain_hydra import MOST, is_plain_hydra, line, small_hydras, split, start, tell


class Start(unittest.TestCase):
    def test_hydras_are_taken(self):
        for depths in [[0], [0, 1], [0, 1, 1], [0, 1, 2, 3, 1, 2, 2], [0, 1, 2, 3, 4, 1]]:
            self.assertEqual(answers(start(depths)), [1, 0], depths)

    def test_no_depths(self):
        self.assertEqual(answers([0, 0]), [1, -22])

    def test_the_most_knots(self):
        for depths in [[0] + [1] * (MOST - 1), list(range(MOST)), [0] + [1, 2, 3] * 5461]:
            self.assertEqual(len(depths), MOST)
            self.assertEqual(answers(start(depths)), [1, 0])

    def test_one_knot_too_many(self):
        for depths in [[0] + [1] * MOST, list(range(MOST + 1)), [0] + [1] * 30899]:
            self.assertEqual(answers(start(depths)), [1, -22])

    def test_first_is_not_0(self):
        for depths in [[1], [1, 2], [65535], [1, 1], [2, 0]]:
            self.assertEqual(answers(start(depths)), [1, -22], depths)

    def test_later_0(self):
        for depths in [[0, 0], [0, 1, 0], [0, 1, 2, 0, 1], [0, 1, 1, 0]]:
            self.assertEqual(answers(start(depths)), [1, -22], depths)

    def test_step_up_by_more_than_one(self):
        for depths in [[0, 2], [0, 1, 3], [0, 1, 2, 1, 3], [0, 1, 65535], [0, 1, 2, 3, 1, 2, 4]]:
            self.assertEqual(answers(start(depths)), [1, -22], depths)

    def test_wrong_only_at_the_last_of_the_most_knots(self):
        for last in [0, MOST, 65535]:
            self.assertEqual(answers(start(list(range(MOST - 1)) + [last])), [1, -22])

    def test_all_short_rows_of_small_depths(self):
        rows = [[]]
        for size in range(5):
            for depths in rows:
                due = 0 if is_plain_hydra(depths) else -22
                self.assertEqual(answers(start(depths)), [1, due], depths)
            rows = [depths + [depth] for depths in rows for depth in range(5)]

    def test_all_small_hydras_are_the_hydra_then(self):
        for depths in small_hydras(6):
            found = split(answers(line(start(depths), tell())))
            self.assertEqual(found, [[0], [len(depths)] + depths])

    def test_second_start_takes_the_place(self):
        found = split(answers(line(start([0, 1, 2]), start([0, 1]), tell())))
        self.assertEqual(found, [[0], [0], [2, 0, 1]])

    def test_second_start_refused_leaves_all(self):
        for wrong in [[], [1], [0, 0], [0, 2], [0] + [1] * MOST]:
            found = split(answers(line(start([0, 1, 2]), start(wrong), tell())))
            self.assertEqual(found, [[0], [-22], [3, 0, 1, 2]])

    def test_start_after_a_refused_start(self):
        found = split(answers(line(start([0, 2]), start([]), start([0, 1]), tell())))
        self.assertEqual(found, [[-22], [-22], [0], [2, 0, 1]])


if __name__ == "__main__":
    unittest.main()
