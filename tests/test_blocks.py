import unittest
from inspect import isgenerator
from itertools import permutations

from rowfolds.blocks import blocks_of, each_block, is_block, is_plain, overlapping_block, strong_blocks
from rowfolds.errors import NoBlock
from samples import OTHER_VALUES, ROWS, SMALL_ROWS, direct_blocks, direct_strong_blocks, overlap

R = (2, 0, 1, 3)
S = (1, 3, 0, 2)


class IsBlockTest(unittest.TestCase):
    def test_every_pair_inside_and_outside(self):
        for row in ROWS:
            blocks = direct_blocks(row)
            for first in range(-2, len(row) + 2):
                for last in range(-2, len(row) + 2):
                    self.assertIs(is_block(row, (first, last)), (first, last) in blocks, (row, first, last))

    def test_pairs_in_the_wrong_order(self):
        for row in ROWS:
            for first, last in direct_blocks(row):
                if first < last:
                    self.assertIs(is_block(row, (last, first)), False)

    def test_parts_of_another_kind(self):
        for row in [(0,), (0, 1), R, S, tuple(range(12))]:
            for part in [None, True, False, "0", "1", (), (0,), [0], {}, 10 ** 59, -(10 ** 59)]:
                for value in [(0, part), (part, 0), (part, part), (part, len(row) - 1)]:
                    self.assertIs(is_block(row, value), False, value)

    def test_other_values(self):
        for row in [(0,), R, S]:
            for value in OTHER_VALUES + [[0, 0], (0,), (0, 0, 0), "00", {"first": 0, "last": 0}, ((0, 0),)]:
                self.assertIs(is_block(row, value), False, value)


class EachBlockTest(unittest.TestCase):
    def test_all_blocks_in_ascending_order(self):
        for row in ROWS:
            self.assertEqual(list(each_block(row)), direct_blocks(row))

    def test_items_are_tuples_of_two(self):
        for block in each_block(R):
            self.assertIs(type(block), tuple)
            self.assertEqual(len(block), 2)

    def test_left_early(self):
        blocks = each_block(R)
        self.assertTrue(isgenerator(blocks))
        self.assertEqual([next(blocks), next(blocks)], [(0, 0), (0, 2)])
        blocks.close()
        for block in each_block(R):
            if block == (0, 3):
                break
        self.assertEqual(block, (0, 3))
        self.assertEqual(len(list(each_block(R))), 7)

    def test_two_at_once(self):
        self.assertEqual(list(zip(each_block(R), each_block(R))), [(block, block) for block in direct_blocks(R)])


class BlocksOfTest(unittest.TestCase):
    def expected(self, row, least, most):
        return tuple((first, last) for first, last in direct_blocks(row) if least <= last - first + 1 <= most)

    def test_no_bound(self):
        for row in ROWS:
            self.assertEqual(blocks_of(row), tuple(direct_blocks(row)))

    def test_one_bound_and_both(self):
        for row in [(0,), (1, 0), R, S, *ROWS[-30:]]:
            for bound in range(-3, 16):
                self.assertEqual(blocks_of(row, least=bound), self.expected(row, bound, 12))
                self.assertEqual(blocks_of(row, most=bound), self.expected(row, 1, bound))
                for most in range(-3, 16):
                    self.assertEqual(blocks_of(row, least=bound, most=most), self.expected(row, bound, most))

    def test_bounds_far_outside(self):
        twelve = tuple(range(12))
        self.assertEqual(len(blocks_of(twelve, least=-(10 ** 59), most=10 ** 59)), 78)
        self.assertEqual(len(blocks_of(twelve, least=0, most=13)), 78)
        self.assertEqual(blocks_of(twelve, least=12), ((0, 11),))
        self.assertEqual(blocks_of(twelve, least=13), ())
        self.assertEqual(blocks_of(twelve, least=10 ** 59), ())
        self.assertEqual(blocks_of(twelve, most=0), ())
        self.assertEqual(blocks_of(twelve, most=-(10 ** 59)), ())
        self.assertEqual(blocks_of(twelve, least=3, most=2), ())


class OverlappingBlockTest(unittest.TestCase):
    def test_every_block(self):
        for row in ROWS:
            strong = direct_strong_blocks(row)
            for block in direct_blocks(row):
                other = overlapping_block(row, block)
                if block in strong:
                    self.assertIsNone(other)
                else:
                    self.assertIn(other, direct_blocks(row))
                    self.assertTrue(overlap(block, other), (row, block, other))

    def check_no_block(self, row, value):
        with self.subTest(row=row, value=str(value)[:80]):
            with self.assertRaises(NoBlock) as caught:
                overlapping_block(row, value)
            self.assertIs(caught.exception.value, value)

    def test_pairs_that_are_no_blocks(self):
        for row in SMALL_ROWS[:33] + [tuple(range(12)), (6, 0, 7, 1, 8, 2, 9, 3, 10, 4, 11, 5)]:
            blocks = direct_blocks(row)
            for first in range(-1, len(row) + 1):
                for last in range(-1, len(row) + 1):
                    if (first, last) not in blocks:
                        self.check_no_block(row, (first, last))

    def test_other_values(self):
        for row in [(0,), R]:
            for value in OTHER_VALUES + [[0, 0], (0, 0, 0), (False, 0), (0, False), ((0, 0),)]:
                self.check_no_block(row, value)


class StrongBlocksTest(unittest.TestCase):
    def test_direct_look_at_all_pairs(self):
        for row in ROWS:
            self.assertEqual(strong_blocks(row), tuple(direct_strong_blocks(row)))

    def test_one_inside_the_other_or_apart(self):
        for row in ROWS:
            blocks = strong_blocks(row)
            self.assertIn((0, len(row) - 1), blocks)
            for first, last in blocks:
                for other_first, other_last in blocks:
                    apart = last < other_first or other_last < first
                    inside = first <= other_first and other_last <= last
                    around = other_first <= first and last <= other_last
                    self.assertTrue(apart or inside or around)


class IsPlainTest(unittest.TestCase):
    def test_direct_look_at_all_blocks(self):
        for row in ROWS:
            whole = (0, len(row) - 1)
            others = [(first, last) for first, last in direct_blocks(row) if first < last and (first, last) != whole]
            self.assertIs(is_plain(row), len(row) >= 4 and not others, row)

    def test_fewer_than_four_places(self):
        for row in SMALL_ROWS:
            if len(row) < 4:
                self.assertIs(is_plain(row), False)

    def test_four_to_six_places(self):
        plain = [row for row in permutations(range(4)) if is_plain(row)]
        self.assertEqual(plain, [(1, 3, 0, 2), (2, 0, 3, 1)])
        self.assertEqual(sum(is_plain(row) for row in permutations(range(5))), 6)
        self.assertEqual(sum(is_plain(row) for row in permutations(range(6))), 46)

    def test_twelve_places(self):
        self.assertIs(is_plain((6, 0, 7, 1, 8, 2, 9, 3, 10, 4, 11, 5)), True)
        self.assertIs(is_plain((6, 0, 7, 1, 8, 2, 9, 3, 10, 4, 5, 11)), False)
        self.assertIs(is_plain(tuple(range(12))), False)


if __name__ == "__main__":
    unittest.main()
