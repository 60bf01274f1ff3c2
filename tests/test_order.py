"""Point 4, hy_order."""
import unittest

from heads.hydra import answers
from plain_hydra import MOST, cut, heads_of, line, order, small_hydras, split, start, tell, tree_of, trees_in_order

# What a line may hold leaves this much room for a second hydra beside one of the most knots.
MOST_BESIDE = 31000 - (2 + MOST) - 2


def compared(one, other):
    return split(answers(line(start(one), order(other))))[1][0]


class Order(unittest.TestCase):
    def in_this_order(self, one, other):
        self.assertEqual(compared(one, other), -1)
        self.assertEqual(compared(other, one), 1)

    def alike(self, one, other):
        self.assertEqual(compared(one, other), 0)
        self.assertEqual(compared(other, one), 0)

    def test_before_and_behind(self):
        self.in_this_order([0], [0, 1])
        self.in_this_order([0, 1], [0, 1, 1])
        self.in_this_order([0, 1, 1, 1, 1], [0, 1, 2])
        self.in_this_order([0, 1, 2, 2, 2, 1, 2, 2], [0, 1, 2, 3])
        self.in_this_order([0, 1, 2, 1, 1], [0, 1, 2, 1, 2])

    def test_the_same(self):
        for depths in [[0], [0, 1], [0, 1, 2, 3, 1, 2], [0, 1, 1, 1]]:
            self.alike(depths, depths)

    def test_what_hangs_in_another_order(self):
        self.alike([0, 1, 2, 1], [0, 1, 1, 2])
        self.alike([0, 1, 2, 3, 2, 1], [0, 1, 1, 2, 2, 3])
        self.alike([0, 1, 2, 3, 1, 2, 2, 1], [0, 1, 1, 2, 2, 1, 2, 3])

    def test_none_more_where_the_other_has(self):
        self.in_this_order([0, 1, 2], [0, 1, 2, 1])
        self.in_this_order([0, 1, 2], [0, 1, 1, 2])
        self.in_this_order([0, 1, 2, 3, 3], [0, 1, 2, 3, 3, 2])
        self.in_this_order([0, 1, 2, 1, 2], [0, 1, 2, 1, 2, 1])

    def test_the_last_of_the_order_counts_first(self):
        self.in_this_order([0, 1, 2, 1, 2, 1, 2], [0, 1, 1, 2, 2])

    def test_refusals(self):
        wrong = [[], [1], [65535], [0, 0], [0, 1, 0], [0, 2], [0, 1, 3], [0, 1, 65535]]
        wrong = wrong + [[0] + [1] * MOST, list(range(MOST + 1)), [0] + [1] * 30890]
        for depths in wrong:
            found = split(answers(line(start([0, 1]), order(depths), tell())))
            self.assertEqual(found, [[0], [-22], [2, 0, 1]])

    def test_changes_nothing(self):
        found = split(answers(line(start([0, 1]), order([0]), order([0, 1, 1]), order([0, 1]), tell())))
        self.assertEqual(found, [[0], [1], [-1], [0], [2, 0, 1]])

    def test_all_small_hydras(self):
        hydras = small_hydras(6)
        for one in hydras:
            for other in hydras:
                self.assertEqual(compared(one, other), trees_in_order(tree_of(one), tree_of(other)), (one, other))

    def test_each_cut_leaves_one_before(self):
        for depths in small_hydras(7):
            for head in heads_of(depths):
                for often in [0, 1, 2, 5]:
                    found = split(answers(line(start(depths), cut(head, often), order(depths))))
                    self.assertEqual(found[2], [-1], (depths, head, often))

    def test_a_cut_that_grows_to_the_most_leaves_one_before(self):
        found = split(answers(line(start([0, 1, 2]), cut(2, MOST - 2), order([0, 1, 2]))))
        self.assertEqual(found, [[0], [MOST], [-1]])


class LargeOrder(unittest.TestCase):
    def in_this_order(self, one, other):
        self.assertEqual(compared(one, other), -1)
        self.assertEqual(compared(other, one), 1)

    def test_deep(self):
        deep = list(range(MOST))
        self.in_this_order(deep[:MOST_BESIDE], deep)
        half = list(range(15000))
        self.assertEqual(compared(half, half), 0)
        self.in_this_order(half, half + [14999])
        self.in_this_order(half, half + [1])
        self.in_this_order(half + [7000], half + [7001])

    def test_wide(self):
        wide = [0] + [1] * (MOST - 1)
        self.in_this_order(wide[:MOST_BESIDE], wide)
        self.in_this_order(wide, [0, 1, 2])
        self.assertEqual(compared([0] + [1] * 15000, [0] + [1] * 15000), 0)

    def test_wide_beside_deep(self):
        self.in_this_order([0] + [1] * (MOST - 1), list(range(MOST_BESIDE)))
        self.in_this_order([0] + [1] * (MOST_BESIDE - 1), list(range(MOST)))

    def test_wide_on_top_of_deep(self):
        row = list(range(7000))
        self.in_this_order(row + [7000] * 7000, row + [7000] * 7001)
        self.in_this_order(row + [7000] * 8000, row + [7000, 7001])
        self.assertEqual(compared(row + [7000] * 7000, row + [7000] * 7000), 0)

    def test_heads_all_along_a_deep_row(self):
        ahead = [0]
        for depth in range(1, 7500):
            ahead = ahead + [depth, depth]
        behind = list(range(7500)) + list(range(7499, 0, -1))
        self.assertEqual(compared(ahead, behind), 0)
        self.in_this_order(behind[:-1], ahead)
        self.in_this_order(ahead[:-1], behind)

    def test_many_parts_in_another_order(self):
        parts = [[1] + [2] * (k % 100) for k in range(290)]
        one = [0] + sum(parts, [])
        other = [0] + sum(reversed(parts), [])
        self.assertEqual(compared(one, other), 0)
        self.in_this_order(one, other + [1])

    def test_one_hydra_grown_to_the_most_against_one_of_the_most(self):
        # A row of 8190 knots and a head beside it, both on one neck: that grows once.
        grown = line(start([0, 1, 2] + list(range(2, 8192))), cut(2, 1))
        rows = [0] + list(range(1, 8192)) * 2
        found = split(answers(line(grown, order(rows + [1]))))
        self.assertEqual(found, [[0], [16383], [-1]])
        self.assertEqual(split(answers(line(grown, order(rows[:14000]))))[2], [1])

    def test_both_of_the_most_knots(self):
        grown = line(start([0, 1, 2]), cut(2, MOST - 2))
        found = split(answers(line(grown, order([0] + [1] * (MOST - 1)))))
        self.assertEqual(found, [[0], [MOST], [0]])
        self.assertEqual(split(answers(line(grown, order(list(range(MOST))))))[2], [-1])

    def test_both_of_the_most_knots_and_mixed(self):
        grown = line(start([0, 1, 2, 3, 2, 1, 1, 1]), cut(4, 5459))
        for other, due in [([0, 1, 1, 1] + [1, 2, 3] * 5460, 0),
                           ([0, 1, 1] + [1, 2, 3] * 5459 + [1, 2, 2, 1], 1),
                           ([0, 1, 2] + [1, 2, 3] * 5460 + [1], -1),
                           ([0] + [1, 2] * 8191 + [1], 1)]:
            self.assertEqual(len(other), MOST)
            self.assertEqual(split(answers(line(grown, order(other)))), [[0], [MOST], [due]])

    def test_many_calls_on_the_most_knots(self):
        grown = line(start([0, 1, 2] + list(range(2, 100))), cut(2, 164))
        found = split(answers(line(grown, *[order([0, 1])] * 48)))
        self.assertEqual(found[1], [1 + 99 * 165])
        self.assertEqual(found[2:], [[1]] * 48)


if __name__ == "__main__":
    unittest.main()
