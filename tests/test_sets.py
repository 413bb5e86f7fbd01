"""[7]: what is told of two regions and of one; and [2], so far as it reaches regions."""

import inspect
import random
import unittest

from cells import FAR, all_sets, cells_of, is_plain, region_by_rows
from panelook import sets
from panelook.regions import is_region, region_of, region_of_box
from panelook.sets import both, bounds, boxes_of, cells_in, either, has_cell, lies_in, moved, without

ARGUMENTS = {"either": ["one", "other"], "both": ["one", "other"], "without": ["one", "other"],
             "moved": ["region", "dx", "dy"], "cells_in": ["region"], "has_cell": ["region", "x", "y"],
             "boxes_of": ["region"], "bounds": ["region"], "lies_in": ["one", "other"]}

STAIRS = ((-2, 0, ((1, 3), (5, 9))), (0, 1, ((-4, 2),)), (4, 7, ((0, 1), (2, 3), (8, 10))))

# Two lists of boxes each, which lie to one another as their names tell.
PAIRS = {
    "over one another": ([(0, 0, 4, 4)], [(2, 2, 4, 4)]),
    "crossing": ([(0, 2, 7, 2)], [(3, 0, 2, 6)]),
    "within": ([(0, 0, 6, 6)], [(2, 2, 2, 2)]),
    "within, at a corner": ([(0, 0, 6, 6)], [(4, 4, 2, 2)]),
    "within a hole": ([(0, 0, 5, 1), (0, 4, 5, 1), (0, 0, 1, 5), (4, 0, 1, 5)], [(2, 2, 1, 1)]),
    "filling a hole": ([(0, 0, 5, 1), (0, 4, 5, 1), (0, 0, 1, 5), (4, 0, 1, 5)], [(1, 1, 3, 3)]),
    "apart": ([(0, 0, 2, 2)], [(7, 9, 2, 2)]),
    "apart, in the same rows": ([(0, 0, 2, 2)], [(3, 0, 2, 2)]),
    "apart, in the same columns": ([(0, 0, 2, 2)], [(0, 3, 2, 2)]),
    "touching sideways": ([(0, 0, 2, 2)], [(2, 0, 2, 2)]),
    "touching downwards": ([(0, 0, 2, 2)], [(0, 2, 2, 2)]),
    "touching at a corner": ([(0, 0, 2, 2)], [(2, 2, 2, 2)]),
    "touching in part": ([(0, 0, 2, 3)], [(2, 1, 2, 3)]),
    "the same": ([(0, 0, 2, 2), (5, 1, 2, 4)], [(0, 0, 2, 2), (5, 1, 2, 4)]),
    "combs": ([(0, 0, 1, 5), (2, 0, 1, 5), (4, 0, 1, 5)], [(0, 0, 5, 1), (0, 2, 5, 1), (0, 4, 5, 1)]),
    "combs that fit": ([(0, 0, 1, 5), (2, 0, 1, 5), (4, 0, 1, 5)], [(1, 0, 1, 5), (3, 0, 1, 5)]),
    "rows that fit": ([(0, 0, 5, 1), (0, 2, 5, 1)], [(0, 1, 5, 1), (0, 3, 5, 1)]),
    "one without cells": ([(0, 0, 2, 2), (5, 1, 2, 4)], []),
    "both without cells": ([], []),
}


def small_sets():
    return all_sets(3, 2) + [{(y, x) for x, y in cells} for cells in all_sets(3, 2)]


class TwoRegions(unittest.TestCase):
    def check(self, one, other):
        """Holds all that is told of two regions, both ways round, against their cells."""
        for first, second in ((one, other), (other, one)):
            ours, theirs = cells_of(first), cells_of(second)
            told = ((either, ours | theirs), (both, ours & theirs), (without, ours - theirs))
            for ask, cells in told:
                region = ask(first, second)
                self.assertEqual(region, region_by_rows(cells), (ask.__name__, first, second))
                self.assertTrue(is_plain(region), (ask.__name__, first, second))
                self.assertIs(is_region(region), True, (ask.__name__, first, second))
            self.assertIs(lies_in(first, second), ours <= theirs, (first, second))

    def test_interface(self):
        for name, arguments in ARGUMENTS.items():
            self.assertEqual(list(inspect.signature(getattr(sets, name)).parameters), arguments, name)

    def test_told_by_hand(self):
        one = ((0, 2, ((0, 4),)),)
        other = ((1, 3, ((2, 6),)),)
        self.assertEqual(either(one, other), ((0, 1, ((0, 4),)), (1, 2, ((0, 6),)), (2, 3, ((2, 6),))))
        self.assertEqual(both(one, other), ((1, 2, ((2, 4),)),))
        self.assertEqual(without(one, other), ((0, 1, ((0, 4),)), (1, 2, ((0, 2),))))
        self.assertEqual(without(other, one), ((1, 2, ((4, 6),)), (2, 3, ((2, 6),))))

    def test_a_hole_in_the_midst(self):
        self.assertEqual(without(((0, 3, ((0, 3),)),), ((1, 2, ((1, 2),)),)),
                         ((0, 1, ((0, 3),)), (1, 2, ((0, 1), (2, 3))), (2, 3, ((0, 3),))))

    def test_bands_and_spans_that_become_alike_are_joined(self):
        self.assertEqual(either(((0, 1, ((0, 2),)),), ((1, 2, ((0, 2),)),)), ((0, 2, ((0, 2),)),))
        self.assertEqual(either(((0, 1, ((0, 2),)),), ((0, 1, ((2, 4),)),)), ((0, 1, ((0, 4),)),))
        steps = ((0, 1, ((0, 2),)), (1, 2, ((0, 4),)))
        self.assertEqual(both(steps, ((0, 9, ((0, 2),)),)), ((0, 2, ((0, 2),)),))
        self.assertEqual(without(steps, ((1, 2, ((2, 4),)),)), ((0, 2, ((0, 2),)),))

    def test_pairs_of_each_kind(self):
        for name, (ones, others) in PAIRS.items():
            with self.subTest(name):
                self.check(region_of(ones), region_of(others))

    def test_with_no_cell(self):
        for region in (STAIRS, region_of_box(-FAR, FAR, FAR, FAR), ()):
            self.assertEqual(either(region, ()), region)
            self.assertEqual(either((), region), region)
            self.assertEqual(both(region, ()), ())
            self.assertEqual(both((), region), ())
            self.assertEqual(without(region, ()), region)
            self.assertEqual(without((), region), ())

    def test_with_itself(self):
        for region in (STAIRS, region_of_box(-FAR, FAR, FAR, FAR), ()):
            self.assertEqual(either(region, region), region)
            self.assertEqual(both(region, region), region)
            self.assertEqual(without(region, region), ())
            self.assertIs(lies_in(region, region), True)

    def test_every_two_small_sets(self):
        regions = [region_by_rows(cells) for cells in small_sets()]
        for at, one in enumerate(regions):
            for other in regions[at:]:
                self.check(one, other)

    def test_many_larger_regions(self):
        chance = random.Random(7)
        for _ in range(300):
            ones, others = [[(chance.randint(-8, 8), chance.randint(-8, 8), chance.randint(0, 7), chance.randint(0, 7))
                             for _ in range(chance.randint(0, 9))] for _ in range(2)]
            self.check(region_of(ones), region_of(others))

    def test_great_numbers(self):
        one = region_of_box(-FAR, -FAR, 2 * FAR, 2 * FAR)
        other = region_of_box(-1, FAR - 1, 2, FAR)
        self.assertEqual(either(one, other), ((-FAR, FAR, ((-FAR, FAR),)), (FAR, 2 * FAR - 1, ((-1, 1),))))
        self.assertEqual(both(one, other), ((FAR - 1, FAR, ((-1, 1),)),))
        self.assertEqual(without(one, other), ((-FAR, FAR - 1, ((-FAR, FAR),)), (FAR - 1, FAR, ((-FAR, -1), (1, FAR)))))
        self.assertEqual(without(other, one), ((FAR, 2 * FAR - 1, ((-1, 1),)),))

    def test_far_off_as_near_by(self):
        for name, (ones, others) in PAIRS.items():
            one, other = region_of(ones), region_of(others)
            far_one, far_other = moved(one, -FAR, FAR), moved(other, -FAR, FAR)
            for ask in (either, both, without):
                self.assertEqual(ask(far_one, far_other), moved(ask(one, other), -FAR, FAR), name)
            self.assertIs(lies_in(far_one, far_other), lies_in(one, other), name)


class LiesIn(unittest.TestCase):
    def test_no_cell_lies_in_all(self):
        for region in ((), STAIRS, region_of_box(FAR, FAR, 1, 1)):
            self.assertIs(lies_in((), region), True)

    def test_nothing_else_lies_in_no_cell(self):
        for region in (STAIRS, region_of_box(FAR, FAR, 1, 1), region_of_box(0, 0, 1, 1)):
            self.assertIs(lies_in(region, ()), False)

    def test_within_and_one_cell_beyond(self):
        frame = region_of_box(0, 0, 4, 4)
        self.assertIs(lies_in(region_of_box(1, 1, 2, 2), frame), True)
        self.assertIs(lies_in(frame, region_of_box(1, 1, 2, 2)), False)
        for x, y in ((-1, 0), (1, 0), (0, -1), (0, 1)):
            self.assertIs(lies_in(moved(frame, x, y), frame), False)

    def test_one_cell_short(self):
        self.assertIs(lies_in(STAIRS, STAIRS), True)
        for x, y in cells_of(STAIRS):
            self.assertIs(lies_in(STAIRS, without(STAIRS, region_of_box(x, y, 1, 1))), False)
            self.assertIs(lies_in(without(STAIRS, region_of_box(x, y, 1, 1)), STAIRS), True)


class Moved(unittest.TestCase):
    def test_told_by_hand(self):
        self.assertEqual(moved(((0, 1, ((0, 1), (2, 4))), (3, 5, ((-1, 6),))), 10, -20),
                         ((-20, -19, ((10, 11), (12, 14))), (-17, -15, ((9, 16),))))

    def test_each_cell(self):
        for dx, dy in ((0, 0), (1, 0), (0, 1), (-3, 2), (5, -40)):
            region = moved(STAIRS, dx, dy)
            self.assertEqual(region, region_by_rows({(x + dx, y + dy) for x, y in cells_of(STAIRS)}))
            self.assertIs(is_region(region), True)
            self.assertTrue(is_plain(region))

    def test_there_and_back(self):
        for dx, dy in ((0, 0), (3, -7), (FAR, -FAR), (-FAR, FAR), (10 ** 200, -10 ** 200)):
            there = moved(STAIRS, dx, dy)
            self.assertIs(is_region(there), True)
            self.assertEqual(there == STAIRS, (dx, dy) == (0, 0))
            self.assertEqual(moved(there, -dx, -dy), STAIRS)

    def test_far_off(self):
        self.assertEqual(moved(((0, 1, ((0, 1),)),), FAR, -FAR), ((-FAR, 1 - FAR, ((FAR, FAR + 1),)),))

    def test_no_cell(self):
        self.assertEqual(moved((), 5, 5), ())


class CellsIn(unittest.TestCase):
    def test_ordinary(self):
        self.assertEqual(cells_in(((0, 2, ((0, 3), (5, 6))), (7, 8, ((0, 1),)))), 9)
        self.assertEqual(cells_in(STAIRS), len(cells_of(STAIRS)))

    def test_no_cell(self):
        self.assertEqual(cells_in(()), 0)

    def test_a_number_and_no_truth(self):
        self.assertIs(type(cells_in(())), int)
        self.assertIs(type(cells_in(((0, 1, ((0, 1),)),))), int)

    def test_great_numbers(self):
        self.assertEqual(cells_in(region_of_box(-FAR, -FAR, FAR, FAR)), FAR * FAR)
        self.assertEqual(cells_in(region_of([(-FAR, 0, FAR, FAR), (5, 0, 1, 1), (FAR, FAR, FAR, 3)])),
                         FAR * FAR + 1 + 3 * FAR)

    def test_every_small_set(self):
        for cells in small_sets():
            self.assertEqual(cells_in(region_by_rows(cells)), len(cells))


class HasCell(unittest.TestCase):
    def test_the_ends_of_a_span(self):
        region = ((0, 1, ((2, 5), (7, 8))),)
        told = [has_cell(region, x, 0) for x in range(0, 10)]
        self.assertEqual(told, [False, False, True, True, True, False, False, True, False, False])

    def test_the_ends_of_a_band(self):
        region = ((2, 5, ((0, 1),)), (5, 6, ((3, 4),)), (7, 8, ((0, 1),)))
        self.assertEqual([has_cell(region, 0, y) for y in range(0, 10)],
                         [False, False, True, True, True, False, False, True, False, False])
        self.assertEqual([has_cell(region, 3, y) for y in range(3, 8)], [False, False, True, False, False])

    def test_truths_are_told(self):
        self.assertIs(has_cell(STAIRS, 1, -2), True)
        self.assertIs(has_cell(STAIRS, 0, -2), False)
        self.assertIs(has_cell((), 0, 0), False)

    def test_every_cell_about(self):
        cells = cells_of(STAIRS)
        for x in range(-7, 13):
            for y in range(-5, 10):
                self.assertIs(has_cell(STAIRS, x, y), (x, y) in cells)

    def test_far_off(self):
        region = region_of_box(-FAR, FAR - 9, FAR, 9)
        for x, y, has in ((-FAR, FAR - 9, True), (-1, FAR - 1, True), (-FAR - 1, FAR - 9, False),
                          (0, FAR - 9, False), (-FAR, FAR - 10, False), (-FAR, FAR, False)):
            self.assertIs(has_cell(region, x, y), has)


class BoxesOf(unittest.TestCase):
    def test_the_order_of_bands_and_spans(self):
        self.assertEqual(boxes_of(STAIRS), [(1, -2, 2, 2), (5, -2, 4, 2), (-4, 0, 6, 1),
                                            (0, 4, 1, 3), (2, 4, 1, 3), (8, 4, 2, 3)])

    def test_no_cell(self):
        self.assertEqual(boxes_of(()), [])

    def test_a_list_of_tuples(self):
        self.assertIs(type(boxes_of(())), list)
        self.assertIs(type(boxes_of(STAIRS)), list)
        self.assertTrue(all(type(box) is tuple and is_plain(box) for box in boxes_of(STAIRS)))

    def test_the_list_is_the_askers_own(self):
        for region in (STAIRS, ()):
            before = list(boxes_of(region))
            told = boxes_of(region)
            told.append((0, 0, 1, 1))
            told[0] = "changed"
            self.assertEqual(boxes_of(region), before)
            kept = boxes_of(region)
            boxes_of(region).clear()
            self.assertEqual(kept, before)
            self.assertIsNot(boxes_of(region), boxes_of(region))

    def test_back_to_the_region(self):
        for cells in small_sets():
            region = region_by_rows(cells)
            self.assertEqual(region_of(boxes_of(region)), region)

    def test_far_off(self):
        self.assertEqual(boxes_of(((-FAR, FAR, ((-FAR, 1 - FAR), (FAR, 3 * FAR))),)),
                         [(-FAR, -FAR, 1, 2 * FAR), (FAR, -FAR, 2 * FAR, 2 * FAR)])


class Bounds(unittest.TestCase):
    def test_no_cell(self):
        self.assertIsNone(bounds(()))

    def test_one_box(self):
        self.assertEqual(bounds(region_of_box(3, -4, 5, 6)), (3, -4, 5, 6))

    def test_several_bands(self):
        self.assertEqual(bounds(STAIRS), (-4, -2, 14, 9))
        self.assertEqual(bounds(((0, 1, ((5, 6),)), (1, 2, ((0, 1), (3, 4))), (9, 10, ((2, 8),)))), (0, 0, 8, 10))
        self.assertEqual(bounds(((0, 1, ((-9, 9),)), (1, 2, ((0, 1),)))), (-9, 0, 18, 2))

    def test_a_tuple(self):
        self.assertIs(type(bounds(STAIRS)), tuple)
        self.assertTrue(is_plain(bounds(STAIRS)))

    def test_every_small_set(self):
        for cells in small_sets():
            if cells:
                xs, ys = [x for x, y in cells], [y for x, y in cells]
                box = (min(xs), min(ys), max(xs) - min(xs) + 1, max(ys) - min(ys) + 1)
                self.assertEqual(bounds(region_by_rows(cells)), box)

    def test_far_off(self):
        self.assertEqual(bounds(region_of([(-FAR, FAR, 1, 1), (FAR, -FAR, 1, 1)])),
                         (-FAR, -FAR, 2 * FAR + 1, 2 * FAR + 1))


class HandedInAgain(unittest.TestCase):
    """[2]: what the program tells may be handed in wherever its kind is."""

    def test_bounds_as_a_box(self):
        region = region_of([(-FAR, FAR, 3, FAR), (FAR, -FAR, FAR, 2)])
        frame = region_of_box(*bounds(region))
        self.assertIs(lies_in(region, frame), True)
        self.assertEqual(bounds(frame), bounds(region))
        self.assertEqual(region_of([bounds(region)]), frame)

    def test_numbers_of_more_than_sixty_figures(self):
        many = cells_in(region_of_box(0, 0, FAR, FAR))
        region = moved(region_of_box(0, 0, many, many), many, -many)
        self.assertEqual(region, ((-many, 0, ((many, 2 * many),)),))
        self.assertIs(is_region(region), True)
        self.assertEqual(cells_in(region), many * many)
        self.assertIs(has_cell(region, 2 * many - 1, -1), True)
        self.assertIs(has_cell(region, 2 * many, -1), False)
        self.assertEqual(region_of(boxes_of(region)), region)

    def test_results_as_regions(self):
        ring = without(region_of_box(0, 0, 9, 9), region_of_box(3, 3, 3, 3))
        self.assertEqual(either(ring, both(region_of_box(3, 3, 3, 3), region_of_box(0, 0, 9, 9))),
                         region_of_box(0, 0, 9, 9))
        self.assertEqual(without(moved(ring, 1, 0), ring), region_by_rows(
            {(x + 1, y) for x, y in cells_of(ring)} - cells_of(ring)))


if __name__ == "__main__":
    unittest.main()
