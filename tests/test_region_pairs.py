"""What is made of two regions: union, common, without and cut_to."""

import copy
import unittest

from onlythedirt.errors import BadRectangle
from onlythedirt.regions import common, cut_to, is_region, region_of, union, without
from tests.pointwise import FAR, RING, WRONG_RECTANGLES, all_regions, points_in, random_lists, written

PAIRS = (
    (union, lambda first, second: first | second),
    (common, lambda first, second: first & second),
    (without, lambda first, second: first - second),
)


class PairTest(unittest.TestCase):
    def check(self, first, second):
        before = copy.deepcopy((first, second))
        for function, on_points in PAIRS:
            result = function(first, second)
            self.assertEqual(result, written(on_points(points_in(first), points_in(second))), (function, before))
            self.assertIs(is_region(result), True)
            self.assertIsNot(result, first)
            self.assertIsNot(result, second)
        self.assertEqual((first, second), before)

    def test_the_example(self):
        self.assertEqual(without([(0, 0, 3, 3)], [(1, 1, 2, 2)]), RING)

    def test_empty_regions(self):
        self.check([], [])
        self.check([], RING)
        self.check(RING, [])

    def test_equal_regions(self):
        self.check(RING, list(RING))
        self.check(RING, RING)

    def test_regions_apart(self):
        self.check([(0, 0, 1, 1)], [(5, 0, 6, 1)])
        self.check([(0, 0, 1, 1)], [(0, 5, 1, 6)])
        self.check([(0, 0, 1, 1)], [(5, -5, 6, -4)])

    def test_touching_at_an_edge(self):
        self.check([(0, 0, 2, 2)], [(2, 0, 3, 2)])
        self.check([(0, 0, 2, 2)], [(0, 2, 2, 3)])
        self.check([(0, 0, 2, 2)], [(2, 1, 3, 3)])
        self.check([(0, 0, 2, 2)], [(1, 2, 3, 3)])

    def test_touching_at_a_corner(self):
        self.check([(0, 0, 2, 2)], [(2, 2, 3, 3)])
        self.check([(0, 0, 2, 2)], [(-1, 2, 0, 3)])

    def test_one_within_the_other(self):
        self.check([(0, 0, 3, 3)], [(1, 1, 2, 2)])
        self.check([(1, 1, 2, 2)], [(0, 0, 3, 3)])

    def test_all_pairs_of_small_regions(self):
        wide = all_regions(3, 2)
        for first in wide:
            for second in wide:
                self.check(first, second)

    def test_pairs_of_high_regions(self):
        high = all_regions(2, 3)
        for first in high:
            for second in high:
                self.check(first, second)

    def test_random_pairs(self):
        for first, second in zip(random_lists(20, 400), random_lists(21, 400)):
            self.check(written(points_in(first)), written(points_in(second)))

    def test_far_edges(self):
        for first, second in zip(random_lists(22, 80), random_lists(23, 80)):
            for function, _ in PAIRS:
                near = function(region_of(first), region_of(second))
                self.assertEqual(function(self.far(first), self.far(second)), self.scaled(near))

    def far(self, rectangles):
        return region_of(self.scaled(rectangles))

    def scaled(self, rectangles):
        return [tuple(edge * FAR + 1 for edge in rectangle) for rectangle in rectangles]

    def test_far_apart(self):
        low, high = [(-FAR, -FAR, 1 - FAR, 1 - FAR)], [(FAR, FAR, FAR + 1, FAR + 1)]
        self.assertEqual(union(high, low), low + high)
        self.assertEqual(common(high, low), [])
        self.assertEqual(without(high, low), high)


class CutTest(unittest.TestCase):
    def check(self, region, rectangle):
        before = copy.deepcopy(region)
        result = cut_to(region, rectangle)
        self.assertEqual(result, written(points_in(region) & points_in([rectangle])))
        self.assertIsNot(result, region)
        self.assertEqual(region, before)

    def test_empty_region(self):
        self.check([], (0, 0, 1, 1))

    def test_the_whole_region(self):
        self.check(RING, (0, 0, 3, 3))
        self.check(RING, (-5, -5, 9, 9))

    def test_a_part(self):
        self.check(RING, (1, 1, 2, 2))
        self.check(RING, (1, 0, 2, 3))
        self.check(RING, (0, 1, 3, 2))

    def test_beside_the_region(self):
        self.check(RING, (3, 0, 4, 3))
        self.check(RING, (0, 3, 3, 4))
        self.check(RING, (-2, -2, 0, 0))

    def test_all_small_regions(self):
        for region in all_regions(3, 3):
            for rectangle in ((-1, -1, 1, 1), (0, -2, 1, 5), (-1, 0, 2, 1), (0, 0, 9, 9), (-1, -1, 2, 2)):
                self.check(region, rectangle)

    def test_random_regions(self):
        for rectangles, cuts in zip(random_lists(30, 200), random_lists(31, 200)):
            for rectangle in cuts:
                self.check(region_of(rectangles), rectangle)

    def test_far_edges(self):
        self.assertEqual(cut_to([(-FAR, -FAR, FAR, FAR)], (0, 1, 2, 3)), [(0, 1, 2, 3)])
        self.assertEqual(cut_to([(0, 1, 2, 3)], (-FAR, -FAR, FAR, FAR)), [(0, 1, 2, 3)])

    def test_no_rectangle(self):
        for region in ([], RING):
            for wrong in WRONG_RECTANGLES:
                with self.assertRaises(BadRectangle) as caught:
                    cut_to(region, wrong)
                self.assertIsNone(caught.exception.place)


if __name__ == "__main__":
    unittest.main()
