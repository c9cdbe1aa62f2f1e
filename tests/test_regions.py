"""is_rectangle, region_of, is_region and what is asked of one region (points 1.1 to 1.4)."""

import copy
import random
import unittest

from onlythedirt.errors import BadRectangle
from onlythedirt.regions import (
    area, bounds, holds, is_rectangle, is_region, moved, points_of, region_of,
)
from tests.pointwise import (
    FAR, RING, WRONG_RECTANGLES, all_regions, points_in, random_lists, row_by_row, written,
)

WRONG_ITEMS = (True, False, None, "1", "", (), (1,), [], [1])


class RectangleTest(unittest.TestCase):
    def test_rectangles(self):
        for value in (
            (0, 0, 1, 1), (-5, -9, -4, -3), (-1, -1, 1, 1), (-FAR, -FAR, FAR, FAR), (FAR, FAR, FAR + 1, FAR + 1),
            (0, 3, 7, 4), (-FAR, 0, 1 - FAR, 1),
        ):
            self.assertIs(is_rectangle(value), True, value)

    def test_each_item_exchanged_for_another_kind(self):
        for place in range(4):
            for wrong in WRONG_ITEMS:
                value = [-2, -2, 2, 2]
                value[place] = wrong
                self.assertIs(is_rectangle(tuple(value)), False, value)

    def test_true_and_false_where_one_and_zero_would_do(self):
        for value in ((False, 0, 1, 1), (0, False, 1, 1), (0, 0, True, 1), (0, 0, 1, True)):
            self.assertIs(is_rectangle(value), False, value)

    def test_too_many_and_too_few_items(self):
        for value in ((), (0,), (0, 0), (0, 0, 1), (0, 0, 1, 1, 2), (0, 0, 1, 1, None)):
            self.assertIs(is_rectangle(value), False, value)

    def test_no_tuple(self):
        for value in ([0, 0, 1, 1], [], None, True, False, 4, "0011", "", [(0, 0, 1, 1)], ((0, 0, 1, 1),)):
            self.assertIs(is_rectangle(value), False, value)

    def test_edges_equal_or_exchanged(self):
        for value in (
            (1, 0, 1, 1), (0, 1, 1, 1), (1, 0, 0, 1), (0, 1, 1, 0), (2, 2, 1, 1), (0, 0, 0, 0), (FAR, 0, -FAR, 1),
            (0, FAR, 1, -FAR), (FAR, 0, FAR, 1),
        ):
            self.assertIs(is_rectangle(value), False, value)


class RegionOfTest(unittest.TestCase):
    def check(self, rectangles):
        before = copy.deepcopy(rectangles)
        region = region_of(rectangles)
        self.assertEqual(region, written(points_in(rectangles)), rectangles)
        self.assertIsNot(region, rectangles)
        self.assertEqual(rectangles, before)
        self.assertIs(is_region(region), True)

    def test_the_example(self):
        self.assertEqual(region_of([(0, 0, 2, 2), (1, 1, 3, 3)]), [(0, 0, 2, 1), (0, 1, 3, 2), (1, 2, 3, 3)])

    def test_no_rectangle(self):
        self.check([])

    def test_one_rectangle(self):
        self.check([(0, 0, 1, 1)])
        self.check([(-7, -4, -2, 3)])

    def test_the_same_rectangle_twice(self):
        self.check([(0, 0, 2, 2), (0, 0, 2, 2)])

    def test_side_by_side(self):
        self.assertEqual(region_of([(2, 0, 4, 2), (0, 0, 2, 2)]), [(0, 0, 4, 2)])
        self.check([(2, 1, 4, 3), (0, 0, 2, 2)])
        self.check([(3, 0, 4, 2), (0, 0, 2, 2)])

    def test_one_above_the_other(self):
        self.assertEqual(region_of([(0, 2, 2, 4), (0, 0, 2, 2)]), [(0, 0, 2, 4)])
        self.check([(1, 2, 3, 4), (0, 0, 2, 2)])
        self.check([(0, 3, 2, 4), (0, 0, 2, 2)])

    def test_one_within_the_other(self):
        self.check([(1, 1, 2, 2), (0, 0, 3, 3)])

    def test_touching_at_a_corner(self):
        self.check([(0, 0, 1, 1), (1, 1, 2, 2)])
        self.check([(1, 0, 2, 1), (0, 1, 1, 2)])

    def test_holes(self):
        self.assertEqual(region_of([(0, 0, 3, 1), (0, 0, 1, 3), (2, 0, 3, 3), (0, 2, 3, 3)]), RING)
        self.check([(0, 0, 5, 1), (0, 0, 1, 5), (4, 0, 5, 5), (0, 4, 5, 5), (2, 2, 3, 3)])

    def test_all_regions_of_a_small_grid_from_their_points(self):
        for region in all_regions(3, 3):
            singles = [(x, y, x + 1, y + 1) for x, y in row_by_row(points_in(region))]
            self.check(singles)
            self.check(singles[::-1])

    def test_random_rectangles_in_any_order(self):
        source = random.Random(11)
        for rectangles in random_lists(1, 300):
            self.check(rectangles)
            shuffled = source.sample(rectangles, len(rectangles)) + rectangles[:1]
            self.assertEqual(region_of(shuffled), region_of(rectangles))

    def test_many_rectangles(self):
        source = random.Random(5)
        corners = [(source.randrange(90), source.randrange(90)) for _ in range(400)]
        self.check([(x, y, x + source.randrange(1, 6), y + source.randrange(1, 6)) for x, y in corners])

    def test_equal_points_give_equal_lists(self):
        self.assertEqual(region_of([(0, 0, 3, 3)]), region_of(RING + [(1, 1, 2, 2)]))
        for rectangles in random_lists(2, 100):
            region = region_of(rectangles)
            rows = [(left, y, right, y + 1) for left, top, right, bottom in region for y in range(top, bottom)]
            columns = [(x, top, x + 1, bottom) for left, top, right, bottom in region for x in range(left, right)]
            for others in (rows, columns, region[::-1], region + rectangles):
                self.assertEqual(region_of(others), region)

    def test_the_returned_rectangles_have_no_point_in_common(self):
        for rectangles in random_lists(3, 100):
            self.assertEqual(area(region_of(rectangles)), len(points_in(rectangles)))

    def test_far_edges(self):
        for rectangles in random_lists(4, 100):
            far = [tuple(edge * FAR for edge in rectangle) for rectangle in rectangles]
            expected = [tuple(edge * FAR for edge in rectangle) for rectangle in region_of(rectangles)]
            self.assertEqual(region_of(far), expected)

    def test_far_apart(self):
        rectangles = [(FAR, FAR, FAR + 1, FAR + 1), (-FAR, -FAR, 1 - FAR, 1 - FAR)]
        self.assertEqual(region_of(rectangles), rectangles[::-1])

    def test_the_first_wrong_item_counts(self):
        for wrong in WRONG_RECTANGLES:
            for rectangles, place in (
                ([wrong], 0), ([wrong, (0, 0, 1, 1), wrong], 0), ([(5, 5, 6, 6), (0, 0, 1, 1), wrong], 2),
                ([(0, 0, 1, 1), wrong, (0, 0, 1, 1), None], 1),
            ):
                with self.assertRaises(BadRectangle) as caught:
                    region_of(rectangles)
                self.assertEqual(caught.exception.place, place, rectangles)
                self.assertIs(type(caught.exception.place), int)


class IsRegionTest(unittest.TestCase):
    def test_written_forms(self):
        for region in all_regions(3, 3) + all_regions(2, 4) + all_regions(4, 2):
            self.assertIs(is_region(region), True, region)

    def test_far_written_forms(self):
        for region in all_regions(3, 3):
            far = [tuple(edge * FAR - 1 for edge in rectangle) for rectangle in region]
            self.assertIs(is_region(far), True, far)

    def test_other_forms(self):
        for value in (
            [(0, 0, 3, 1), (0, 1, 1, 2), (0, 2, 3, 3), (2, 1, 3, 2)],
            [(0, 1, 1, 2), (0, 0, 1, 1)],
            [(2, 0, 3, 1), (0, 0, 1, 1)],
            [(0, 0, 1, 1), (0, 1, 1, 2)],
            [(0, 0, 1, 1), (1, 0, 2, 1)],
            [(0, 0, 1, 1), (2, 0, 3, 1), (0, 1, 1, 2), (2, 1, 3, 2)],
            [(0, 0, 1, 1), (0, 0, 1, 1)],
            [(0, 0, 2, 1), (1, 0, 3, 1)],
            [(0, 0, 2, 2), (1, 1, 3, 3)],
            [(0, 0, 1, 2), (2, 0, 3, 1)],
            [(0, 0, 1, 1), (2, 0, 3, 2)],
            [(0, 0, 1, 3), (2, 1, 3, 2)],
            [(0, 0, 1, 2), (2, 1, 3, 3)],
            [(0, 0, 1, 5), (4, 7, 5, 8), (2, 0, 3, 5)],
            [(0, 0, 1, 2), (2, 0, 3, 2), (0, 1, 1, 3)],
        ):
            self.assertIs(is_region(value), False, value)

    def test_no_list_of_rectangles(self):
        for value in (None, True, False, 3, "", "abcd", (), ((0, 0, 1, 1),), (0, 0, 1, 1), [[]], [[0, 0, 1, 1]], [()]):
            self.assertIs(is_region(value), False, value)

    def test_a_rectangle_exchanged_for_another_value(self):
        for place in range(len(RING)):
            for wrong in WRONG_RECTANGLES:
                self.assertIs(is_region(RING[:place] + [wrong] + RING[place + 1:]), False)

    def test_spoilt_written_forms(self):
        source = random.Random(8)
        for rectangles in random_lists(9, 200):
            region = region_of(rectangles)
            for value in self.spoilt(source, region):
                self.assertIs(is_region(value), value == written(points_in(value)), value)

    def spoilt(self, source, region):
        for place, (left, top, right, bottom) in enumerate(region):
            before, behind = region[:place], region[place + 1:]
            yield before + behind
            yield before + [region[place]] * 2 + behind
            for dx, dy in ((1, 0), (-1, 0), (0, 1), (0, -1), (5, 5)):
                yield before + [(left + dx, top + dy, right + dx, bottom + dy)] + behind
            yield before + [(left, top, right + 1, bottom)] + behind
            yield before + [(left, top, right, bottom + 1)] + behind
            if left + 1 < right:
                yield before + [(left, top, left + 1, bottom), (left + 1, top, right, bottom)] + behind
            if top + 1 < bottom:
                yield before + [(left, top, right, top + 1), (left, top + 1, right, bottom)] + behind
            others = before + behind
            elsewhere = source.randrange(len(region))
            yield others[:elsewhere] + [region[place]] + others[elsewhere:]

    def test_the_argument_is_as_before(self):
        for value in (list(RING), [(0, 0, 1, 1), (0, 1, 1, 2)]):
            before = copy.deepcopy(value)
            is_region(value)
            self.assertEqual(value, before)


class OneRegionTest(unittest.TestCase):
    def regions(self):
        return all_regions(3, 3) + [written(points_in(rectangles)) for rectangles in random_lists(6, 100)]

    def test_points_of(self):
        self.assertEqual(points_of([]), [])
        self.assertEqual(points_of([(-1, 0, 1, 2)]), [(-1, 0), (0, 0), (-1, 1), (0, 1)])
        self.assertEqual(points_of([(0, 0, 1, 2), (2, 0, 3, 2)]), [(0, 0), (2, 0), (0, 1), (2, 1)])
        for region in self.regions():
            self.assertEqual(points_of(region), row_by_row(points_in(region)))

    def test_points_far_away(self):
        self.assertEqual(points_of([(FAR, -FAR, FAR + 2, 1 - FAR)]), [(FAR, -FAR), (FAR + 1, -FAR)])

    def test_holds(self):
        for region in all_regions(3, 3):
            points = points_in(region)
            for y in range(-3, 4):
                for x in range(-3, 4):
                    self.assertIs(holds(region, x, y), (x, y) in points)

    def test_holds_far_away(self):
        region = [(-FAR, -FAR, FAR, FAR)]
        for x, y, answer in (
            (-FAR, -FAR, True), (FAR - 1, FAR - 1, True), (FAR, 0, False), (0, FAR, False), (-FAR - 1, 0, False),
            (0, -FAR - 1, False), (0, 0, True),
        ):
            self.assertIs(holds(region, x, y), answer)

    def test_area(self):
        self.assertEqual(area([]), 0)
        self.assertEqual(area([(-FAR, -1, FAR, 1)]), 4 * FAR)
        for region in self.regions():
            self.assertEqual(area(region), len(points_in(region)))

    def test_bounds(self):
        self.assertIsNone(bounds([]))
        self.assertEqual(bounds([(-FAR, 0, 1, 1), (3, 2, FAR, 4)]), (-FAR, 0, FAR, 4))
        for region in self.regions():
            if region:
                points = points_in(region)
                xs = [x for x, _ in points]
                ys = [y for _, y in points]
                self.assertEqual(bounds(region), (min(xs), min(ys), max(xs) + 1, max(ys) + 1))
                self.assertIs(is_rectangle(bounds(region)), True)

    def test_moved(self):
        for region in self.regions():
            for dx, dy in ((0, 0), (3, 0), (0, -2), (-4, 7)):
                before = copy.deepcopy(region)
                result = moved(region, dx, dy)
                self.assertEqual(result, written({(x + dx, y + dy) for x, y in points_in(region)}))
                self.assertIsNot(result, region)
                self.assertEqual(region, before)

    def test_moved_far(self):
        self.assertEqual(moved([(0, 0, 1, 2)], FAR, -FAR), [(FAR, -FAR, FAR + 1, 2 - FAR)])

    def test_the_argument_is_as_before(self):
        region = list(RING)
        for function in (points_of, area, bounds):
            function(region)
        holds(region, 1, 1)
        self.assertEqual(region, RING)
        self.assertIsNot(points_of(region), points_of(region))


if __name__ == "__main__":
    unittest.main()
