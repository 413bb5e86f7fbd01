"""[5] and [6]: what is a region, and the regions of boxes."""

import inspect
import itertools
import random
import unittest
from collections import namedtuple
from fractions import Fraction

from cells import FAR, all_sets, cells_of, cells_of_box, is_plain, region_by_rows
from panelook.regions import is_region, region_of, region_of_box

ONE = ((0, 1),)
TWO = ((0, 1), (2, 3))


class Stubborn:
    """A thing that cannot be compared, counted or walked."""

    def refuse(self, *others):
        raise RuntimeError("not to be asked")

    __eq__ = __ne__ = __lt__ = __le__ = __gt__ = __ge__ = refuse
    __len__ = __iter__ = __getitem__ = __bool__ = __int__ = __index__ = refuse
    __hash__ = None


# No one of these is a region, a band, spans, a span or a whole number.
STRANGE = [True, False, None, "", "a", "ab", "abc", "01", b"", b"ab", b"abc", 1.0, float("nan"), float("inf"),
           1j, Fraction(1), [], [0], [0, 1], [0, 1, ONE], {}, {0: 1}, {0: 1, 2: 3}, {0: 1, 2: 3, 4: 5}, set(),
           {0, 1}, frozenset(), range(0), range(2), range(3), object(), Stubborn(), len, int, tuple, bytearray(2)]


def nested(depth, inmost=()):
    """A tuple in a tuple, and so on, so many deep."""
    thing = inmost
    for _ in range(depth):
        thing = (thing,)
    return thing


class IsRegion(unittest.TestCase):
    def yes(self, thing):
        self.assertIs(is_region(thing), True, thing)

    def no(self, thing, why=None):
        self.assertIs(is_region(thing), False, why)

    def test_interface(self):
        self.assertEqual(list(inspect.signature(is_region).parameters), ["thing"])

    def test_no_cell(self):
        self.yes(())

    def test_ordinary(self):
        self.yes(((0, 1, ONE),))
        self.yes(((-5, 7, ((-3, -1), (0, 4), (9, 20))), (7, 8, ONE), (10, 11, ONE)))

    def test_great_numbers(self):
        self.yes(((-FAR, FAR, ((-FAR, FAR),)),))
        self.yes(((-FAR, 1 - FAR, ((-FAR, 1 - FAR), (FAR - 1, FAR))), (FAR - 1, FAR, ((FAR, FAR + 1),))))
        self.no(((FAR, FAR, ONE),))
        self.no(((0, 1, ((FAR, FAR - 1),)),))
        self.no(((0, 1, ((0, FAR), (FAR, FAR + 1))),))
        self.no(((0, FAR, ONE), (FAR, FAR + 1, ONE)))

    def test_rows_of_a_band_rise(self):
        self.yes(((4, 5, ONE),))
        self.no(((4, 4, ONE),))
        self.no(((5, 4, ONE),))
        self.no(((-4, -5, ONE),))
        self.no(((0, 1, ONE), (3, 3, ONE)))
        self.no(((3, 3, ONE), (4, 5, TWO)))

    def test_places_of_a_span_rise(self):
        self.yes(((0, 1, ((4, 5),)),))
        self.no(((0, 1, ((4, 4),)),))
        self.no(((0, 1, ((5, 4),)),))
        self.no(((0, 1, ((-4, -5),)),))
        self.no(((0, 1, ((0, 1), (4, 4))),))
        self.no(((0, 1, ((-3, -3), (0, 1))),))
        self.no(((0, 1, ONE), (1, 2, ((4, 4),))))

    def test_a_band_has_a_span(self):
        self.no(((0, 1, ()),))
        self.no(((0, 1, ONE), (1, 2, ())))
        self.no(((0, 1, ()), (1, 2, ONE)))
        self.no(((0, 1, ONE), (1, 2, ()), (2, 3, ONE)))

    def test_next_band_ahead_of_the_end(self):
        self.no(((0, 3, ONE), (2, 4, ONE)))
        self.no(((0, 3, ONE), (2, 4, TWO)))
        self.no(((0, 3, ONE), (0, 3, TWO)))
        self.no(((5, 6, ONE), (0, 1, TWO)))
        self.no(((0, 1, ONE), (2, 5, ONE), (4, 6, TWO)))

    def test_next_band_at_the_end(self):
        self.no(((0, 3, ONE), (3, 4, ONE)))
        self.no(((0, 3, TWO), (3, 4, TWO)))
        self.no(((0, 3, TWO), (3, 4, ((0, 1), (2, 3)))))
        self.no(((0, 3, ONE), (3, 4, TWO), (4, 5, TWO)))
        self.yes(((0, 3, ONE), (3, 4, TWO)))
        self.yes(((0, 3, TWO), (3, 4, ONE)))
        self.yes(((0, 3, ONE), (3, 4, ((0, 2),))))
        self.yes(((0, 3, ONE), (3, 4, TWO), (4, 5, ONE)))

    def test_next_band_behind_the_end(self):
        self.yes(((0, 3, ONE), (4, 5, ONE)))
        self.yes(((0, 3, ONE), (4, 5, TWO)))
        self.yes(((0, 1, ONE), (2, 3, ONE), (4, 5, ONE)))

    def test_next_span(self):
        self.no(((0, 1, ((0, 3), (2, 4))),))
        self.no(((0, 1, ((5, 6), (0, 1))),))
        self.no(((0, 1, ((0, 3), (0, 3))),))
        self.no(((0, 1, ((0, 3), (3, 4))),))
        self.yes(((0, 1, ((0, 3), (4, 5))),))
        self.yes(((0, 1, ((0, 3), (9, 12))),))
        self.no(((0, 1, ((0, 1), (2, 3), (3, 4))),))
        self.no(((0, 1, ONE), (1, 2, ((0, 1), (1, 2)))))

    def test_truths_are_no_numbers(self):
        for truth in (True, False):
            self.no(((truth, 2, ONE),))
            self.no(((-1, truth, ONE),))
            self.no(((0, 1, ((truth, 2),)),))
            self.no(((0, 1, ((-1, truth),)),))

    def test_truths_in_a_later_band_or_span(self):
        self.no(((-5, -4, ONE), (True, 2, ONE)))
        self.no(((-5, -4, ONE), (0, True, ONE)))
        self.no(((0, 1, ((-5, -4), (True, 2))),))
        self.no(((0, 1, ((-5, -4), (0, True))),))

    def test_lists_are_no_tuples(self):
        self.no([])
        self.no([(0, 1, ONE)])
        self.no(([0, 1, ONE],))
        self.no(((0, 1, [(0, 1)]),))
        self.no(((0, 1, ([0, 1],)),))
        self.no(((0, 1, ((0, 1), [2, 3])),))
        self.no(((0, 1, ONE), [2, 3, ONE]))

    def test_strange_things_at_any_depth(self):
        for at, thing in enumerate(STRANGE):
            why = (at, type(thing).__name__)
            self.no(thing, why)
            self.no((thing,), why)
            self.no(((0, 1, ONE), thing), why)
            self.no((thing, (0, 1, ONE)), why)
            self.no(((thing, 1, ONE),), why)
            self.no(((0, thing, ONE),), why)
            self.no(((thing, thing, ONE),), why)
            self.no(((0, 1, thing),), why)
            self.no(((0, 1, thing), (1, 2, thing)), why)
            self.no(((0, 1, (thing,)),), why)
            self.no(((0, 1, ((0, 1), thing)),), why)
            self.no(((0, 1, (thing, (2, 3))),), why)
            self.no(((0, 1, ((thing, 1),)),), why)
            self.no(((0, 1, ((0, thing),)),), why)
            self.no(((0, 1, ((thing, thing),)),), why)

    def test_numbers_in_the_place_of_tuples(self):
        for number in (0, 1, -1, 3, FAR):
            self.no(number)
            self.no((number,))
            self.no((number, number, number))
            self.no(((0, 1, number),))
            self.no(((0, 1, (number,)),))
            self.no(((0, 1, (number, number + 1)),))

    def test_a_part_too_many_or_too_few(self):
        self.no(((),))
        self.no(((0,),))
        self.no(((0, 1),))
        self.no(((0, 1, ONE, ONE),))
        self.no(((0, 1, ONE, 2),))
        self.no(((0, 1, 2, ONE),))
        self.no(((0, 1, ((),)),))
        self.no(((0, 1, ((0,),)),))
        self.no(((0, 1, ((0, 1, 2),)),))
        self.no((0, 1, ONE))
        self.no(((0, 1, (0, 1)),))

    def test_tuples_and_lists_within_one_another(self):
        for depth in (1, 2, 3, 4, 5, 50, 97, 100):
            thing = nested(depth)
            self.no(thing)
            self.no(nested(depth, [thing]))
            self.no(nested(depth, ((0, 1, ONE),)))
        for depth in (1, 2, 3, 4, 50, 97):
            thing = nested(depth)
            self.no(((thing, 1, ONE),))
            self.no(((0, thing, ONE),))
            self.no(((0, 1, thing),))
            self.no(((0, 1, (thing,)),))
            self.no(((0, 1, ((thing, 1),)),))
            self.no(((0, 1, ((0, thing),)),))
            self.no(((0, 1, thing), (1, 2, thing)))

    def test_what_counts_as_a_tuple_or_an_int_does(self):
        band = namedtuple("band", "y0 y1 spans")
        self.yes((band(0, 1, ONE),))
        self.no((band(1, 1, ONE),))

    def test_what_is_handed_in_is_not_changed(self):
        inner = [(0, 1)]
        outer = [(0, 1, inner)]
        self.no(outer)
        self.no(tuple(outer))
        self.assertEqual(outer, [(0, 1, [(0, 1)])])

    def test_just_one_region_for_each_set_of_cells(self):
        for cells in all_sets(3, 3):
            self.yes(region_by_rows(cells))

    def test_every_tuple_of_two_small_bands(self):
        spans = [(), ((0, 1),), ((1, 2),), ((0, 2),), ((0, 1), (1, 2)), ((0, 1), (2, 3)), ((2, 3), (0, 1)), ((1, 1),)]
        bands = [(y0, y1, row) for y0 in range(3) for y1 in range(3) for row in spans]
        for pair in itertools.product(bands, bands):
            self.assertIs(is_region(pair), pair == region_by_rows(cells_of(pair)), pair)


class RegionOfBox(unittest.TestCase):
    def test_interface(self):
        self.assertEqual(list(inspect.signature(region_of_box).parameters), ["x", "y", "w", "h"])

    def test_ordinary(self):
        self.assertEqual(region_of_box(3, 4, 5, 6), ((4, 10, ((3, 8),)),))
        self.assertEqual(region_of_box(-3, -4, 2, 2), ((-4, -2, ((-3, -1),)),))

    def test_sizes_about_none(self):
        for w in range(-3, 4):
            for h in range(-3, 4):
                region = region_of_box(7, -2, w, h)
                self.assertEqual(region, region_by_rows(cells_of_box((7, -2, w, h))), (w, h))
                self.assertIs(type(region), tuple)
                self.assertIs(is_region(region), True)
                self.assertEqual(region == (), w < 1 or h < 1)

    def test_one_cell(self):
        self.assertEqual(region_of_box(0, 0, 1, 1), ((0, 1, ((0, 1),)),))

    def test_great_numbers(self):
        self.assertEqual(region_of_box(-FAR, FAR, FAR, FAR), ((FAR, 2 * FAR, ((-FAR, 0),)),))
        self.assertEqual(region_of_box(FAR, -FAR, 1, 2 * FAR), ((-FAR, FAR, ((FAR, FAR + 1),)),))
        self.assertEqual(region_of_box(0, 0, -FAR, -FAR), ())
        self.assertEqual(region_of_box(0, 0, FAR, -FAR), ())
        self.assertEqual(region_of_box(0, 0, FAR, 0), ())
        self.assertEqual(region_of_box(0, 0, 0, FAR), ())
        self.assertTrue(is_plain(region_of_box(-FAR, FAR, FAR, FAR)))


# Lists of boxes that lie to one another as their names tell.
LISTS = {
    "over": [(0, 0, 4, 4), (2, 2, 4, 4)],
    "crossing": [(0, 2, 7, 2), (3, 0, 2, 6)],
    "within": [(0, 0, 6, 6), (2, 2, 2, 2)],
    "within at an edge": [(0, 0, 6, 6), (0, 2, 2, 2)],
    "beside": [(0, 0, 2, 3), (2, 0, 2, 3)],
    "beside, of unlike heights": [(0, 0, 2, 3), (2, 1, 2, 3)],
    "below": [(0, 0, 2, 3), (0, 3, 2, 3)],
    "below, of unlike widths": [(0, 0, 2, 3), (1, 3, 2, 3)],
    "at a corner": [(0, 0, 2, 2), (2, 2, 2, 2)],
    "at the other corner": [(2, 0, 2, 2), (0, 2, 2, 2)],
    "a cell between, sideways": [(0, 0, 2, 2), (3, 0, 2, 2)],
    "a cell between, downwards": [(0, 0, 2, 2), (0, 3, 2, 2)],
    "far apart": [(-9, -9, 2, 2), (9, 9, 2, 2)],
    "the same twice": [(1, 1, 3, 2), (1, 1, 3, 2)],
    "one without cells": [(1, 1, 3, 2), (1, 1, 0, 9), (8, 8, -2, -2), (2, 2, 3, -1)],
    "all without cells": [(1, 1, 0, 2), (1, 1, -3, -2), (4, 4, 2, 0)],
    "a ring": [(0, 0, 5, 1), (0, 4, 5, 1), (0, 1, 1, 3), (4, 1, 1, 3)],
    "a gap that is filled": [(0, 0, 2, 2), (4, 0, 2, 2), (2, 0, 2, 2)],
    "stairs": [(0, 0, 2, 2), (1, 1, 2, 2), (2, 2, 2, 2), (3, 3, 2, 2)],
    "many kinds": [(0, 0, 3, 3), (3, 0, 1, 1), (0, 3, 1, 1), (5, 5, 1, 1), (1, 1, 1, 1)],
}


class RegionOf(unittest.TestCase):
    def check(self, boxes):
        region = region_of(boxes)
        cells = set().union(*[cells_of_box(box) for box in boxes])
        self.assertEqual(region, region_by_rows(cells), boxes)
        self.assertTrue(is_plain(region), boxes)
        self.assertIs(is_region(region), True, boxes)

    def test_interface(self):
        self.assertEqual(list(inspect.signature(region_of).parameters), ["boxes"])

    def test_no_box(self):
        self.assertEqual(region_of([]), ())

    def test_told_by_hand(self):
        self.assertEqual(region_of([(0, 0, 4, 2), (2, 1, 4, 2)]),
                         ((0, 1, ((0, 4),)), (1, 2, ((0, 6),)), (2, 3, ((2, 6),))))
        self.assertEqual(region_of([(0, 0, 2, 2), (2, 0, 2, 2)]), ((0, 2, ((0, 4),)),))
        self.assertEqual(region_of([(0, 0, 2, 2), (0, 2, 2, 2)]), ((0, 4, ((0, 2),)),))
        self.assertEqual(region_of([(0, 0, 1, 1), (1, 1, 1, 1)]), ((0, 1, ((0, 1),)), (1, 2, ((1, 2),))))
        self.assertEqual(region_of([(0, 0, 1, 1), (2, 0, 1, 1)]), ((0, 1, ((0, 1), (2, 3))),))

    def test_one_box_is_as_the_region_of_the_box(self):
        for w in range(-2, 3):
            for h in range(-2, 3):
                self.assertEqual(region_of([(5, -5, w, h)]), region_of_box(5, -5, w, h))

    def test_boxes_in_any_order(self):
        for name, boxes in LISTS.items():
            with self.subTest(name):
                for order in itertools.permutations(boxes):
                    self.check(list(order))

    def test_the_same_cells_by_other_boxes(self):
        ring = region_of(LISTS["a ring"])
        self.assertEqual(region_of([(0, 0, 1, 5), (4, 0, 1, 5), (1, 0, 3, 1), (1, 4, 3, 1)]), ring)
        self.assertEqual(region_of([(x, y, 1, 1) for x, y in sorted(cells_of(ring))]), ring)
        self.assertEqual(region_of(LISTS["a ring"] * 3), ring)

    def test_every_set_cell_by_cell(self):
        for cells in all_sets(3, 3):
            self.assertEqual(region_of([(x, y, 1, 1) for x, y in sorted(cells)]), region_by_rows(cells))

    def test_many_boxes(self):
        chance = random.Random(6)
        for many in list(range(12)) + [20, 33, 60]:
            for _ in range(20):
                self.check([(chance.randint(-9, 9), chance.randint(-9, 9), chance.randint(-1, 6),
                             chance.randint(-1, 6)) for _ in range(many)])

    def test_great_numbers(self):
        self.assertEqual(region_of([(-FAR, -FAR, FAR, FAR), (0, 0, FAR, FAR)]),
                         ((-FAR, 0, ((-FAR, 0),)), (0, FAR, ((0, FAR),))))
        self.assertEqual(region_of([(-FAR, 5, FAR, FAR), (0, 5, FAR, FAR)]), ((5, FAR + 5, ((-FAR, FAR),)),))
        self.assertEqual(region_of([(FAR, FAR, 1, 1), (-FAR, FAR, 1, 1), (0, 0, -FAR, 3)]),
                         ((FAR, FAR + 1, ((-FAR, 1 - FAR), (FAR, FAR + 1))),))
        self.assertEqual(region_of([(7, FAR, FAR, -FAR)]), ())

    def test_the_list_handed_in_is_as_it_was_and_not_kept(self):
        boxes = [(2, 2, 4, 4), (0, 0, 4, 4), (9, 9, 0, 1)]
        region = region_of(boxes)
        self.assertEqual(boxes, [(2, 2, 4, 4), (0, 0, 4, 4), (9, 9, 0, 1)])
        boxes.append((20, 20, 5, 5))
        boxes[0] = (0, 0, 1, 1)
        self.assertEqual(region, region_of([(0, 0, 4, 4), (2, 2, 4, 4)]))
        self.assertEqual(region_of(boxes), region_of([(0, 0, 4, 4), (20, 20, 5, 5)]))


if __name__ == "__main__":
    unittest.main()
