"""Point 2, hy_cut."""
import unittest

from heads.hydra import answers
from plain_hydra import GREATEST, MOST, cut, line, plain_cut, small_hydras, split, start, tell


def after_cut(depths, head, often):
    """What hy_cut answers, and what hy_tell answers then."""
    return split(answers(line(start(depths), cut(head, often), tell())))[1:]


class Cut(unittest.TestCase):
    def refused(self, depths, head, often, number):
        self.assertEqual(after_cut(depths, head, often), [[number], [len(depths)] + depths])

    def cut_to(self, depths, head, often, after):
        self.assertEqual(after_cut(depths, head, often), [[len(after)], [len(after)] + after])

    def test_head_on_the_body_never_grows(self):
        for often in [0, 1, 2, 16384, GREATEST]:
            self.cut_to([0, 1], 1, often, [0])
            self.cut_to([0, 1, 2, 1, 1, 2], 3, often, [0, 1, 2, 1, 2])

    def test_head_on_the_body_of_the_most_knots(self):
        self.cut_to([0] + [1] * (MOST - 1), 77, GREATEST, [0] + [1] * (MOST - 2))

    def test_head_that_hangs_deeper(self):
        self.cut_to([0, 1, 2], 2, 0, [0, 1])
        self.cut_to([0, 1, 2], 2, 1, [0, 1, 1])
        self.cut_to([0, 1, 2], 2, 3, [0, 1, 1, 1, 1])

    def test_all_that_is_still_on_it_grows_too(self):
        self.cut_to([0, 1, 2, 3, 2, 1], 4, 2, [0, 1, 2, 3, 1, 2, 3, 1, 2, 3, 1])
        self.cut_to([0, 1, 2, 2, 3], 2, 1, [0, 1, 2, 3, 1, 2, 3])

    def test_grows_behind_itself_ahead_of_what_follows(self):
        self.cut_to([0, 1, 2, 3, 3, 2, 1], 3, 2, [0, 1, 2, 3, 2, 3, 2, 3, 2, 1])

    def test_only_what_it_hung_on_grows(self):
        self.cut_to([0, 1, 2, 3], 3, 1, [0, 1, 2, 2])

    def test_knots_are_numbered_anew(self):
        calls = line(start([0, 1, 2, 2]), cut(2, 1), tell(), cut(4, 0), tell(), cut(4, 0))
        found = split(answers(calls))
        self.assertEqual(found[1:], [[5], [5, 0, 1, 2, 1, 2], [4], [4, 0, 1, 2, 1], [-22]])

    def test_the_body_is_no_head(self):
        for depths in [[0], [0, 1], [0, 1, 2]]:
            for often in [0, 1, GREATEST]:
                self.refused(depths, 0, often, -22)

    def test_a_knot_that_is_no_head(self):
        self.refused([0, 1, 2], 1, 0, -22)
        self.refused([0, 1, 2, 3, 1], 2, 1, -22)
        self.refused([0, 1, 2, 3, 1], 1, GREATEST, -22)

    def test_no_such_knot(self):
        for head in [3, 4, 16383, 16384, 65536, 4294967294, GREATEST]:
            for often in [0, 1, GREATEST]:
                self.refused([0, 1, 2], head, often, -22)

    def test_just_the_most_knots(self):
        self.cut_to([0, 1, 2], 2, MOST - 2, [0] + [1] * (MOST - 1))
        self.cut_to([0, 1, 2, 3, 2, 1], 4, 5459, [0] + [1, 2, 3] * 5460 + [1])
        self.refused([0, 1, 2, 3, 2, 1], 4, 5460, -28)

    def test_one_knot_too_many(self):
        self.refused([0, 1, 2], 2, MOST - 1, -28)
        self.refused([0, 1, 1, 2], 3, MOST - 2, -28)

    def test_just_the_most_with_a_larger_part(self):
        depths = [0] + [1, 2, 2] + [1] * 3
        # 6 knots are left, and 2 grow each time.
        self.cut_to(depths, 3, 8189, [0] + [1, 2] * 8190 + [1] * 3)
        self.refused(depths, 3, 8190, -28)

    def test_a_great_often(self):
        for often in [65536, 2147483648, 4294967294, GREATEST]:
            self.refused([0, 1, 2], 2, often, -28)
            self.refused(list(range(MOST)), MOST - 1, often, -28)

    def test_the_most_knots_cut(self):
        deep = list(range(MOST))
        self.cut_to(deep, MOST - 1, 0, deep[:-1])
        self.cut_to(deep, MOST - 1, 1, deep[:-1] + [MOST - 2])
        self.refused(deep, MOST - 1, 2, -28)

    def test_goes_on_after_a_refusal(self):
        calls = line(start([0, 1, 2]), cut(2, GREATEST), cut(1, 0), cut(2, 1), tell())
        self.assertEqual(split(answers(calls)), [[0], [-28], [-22], [3], [3, 0, 1, 1]])

    def test_slain_in_the_end(self):
        calls = line(start([0, 1, 2]), cut(2, 2), cut(1, 9), cut(2, 9), cut(1, 9), cut(0, 9), tell())
        self.assertEqual(split(answers(calls)), [[0], [4], [3], [2], [1], [-22], [1, 0]])

    def test_all_small_hydras(self):
        for depths in small_hydras(6):
            for head in range(len(depths) + 2):
                for often in range(4):
                    due = plain_cut(depths, head, often)
                    if due == -22:
                        self.refused(depths, head, often, -22)
                    else:
                        self.cut_to(depths, head, often, due)


if __name__ == "__main__":
    unittest.main()
