"""[15], [16] and [17]: corners, areas and the drawing order of panes, and what the plane shows."""

import inspect
import random
import unittest

from cells import DEEP, FAR, HUGE, SceneTest, cells_of, cells_of_box, is_plain, region_by_rows, state
from panelook import drawing
from panelook.drawing import area, bare_in, corner, drawing_order, drawn, shown_at, shown_in
from panelook.errors import LookError, NoPane, NoSize
from panelook.panes import Panes
from panelook.regions import is_region, region_of_box
from panelook.sets import bounds, cells_in, either, has_cell, without

ARGUMENTS = {"corner": ["panes", "pane"], "area": ["panes", "pane"], "drawing_order": ["panes"],
             "shown_at": ["panes", "x", "y"], "shown_in": ["panes", "x", "y", "w", "h"],
             "bare_in": ["panes", "x", "y", "w", "h"], "drawn": ["panes", "x", "y", "w", "h"]}


def paint(panes, cells, parent=0, left=0, top=0, board=None, areas=None):
    """What each of some cells shows, and each pane's area among them, painted cell by cell, one pane over the other."""
    board, areas = {} if board is None else board, {} if areas is None else areas
    for pane in panes.inside(parent):
        _, sheet, x, y, w, h, sx, sy, hidden = panes.told(pane)
        x, y = x + left, y + top
        own = {place for place in cells if place[0] - x in range(w) and place[1] - y in range(h) and not hidden}
        areas[pane] = own
        board.update({(at, row): (pane, sheet, at - x + sx, row - y + sy) for at, row in own})
        paint(panes, own, pane, x, y, board, areas)
    return board, areas


def order_by_calls(panes, parent=0):
    """The drawing order by calls within calls, for nests that are not deep."""
    return sum([[pane] + order_by_calls(panes, pane) for pane in panes.inside(parent)], [])


class DrawingTest(SceneTest):
    def nest(self, depth, x, y, w, h):
        """Opens panes of one place and size within one another, and tells the innermost one."""
        pane = 0
        for _ in range(depth):
            pane = self.pane(x, y, w, h, pane)
        return pane

    def refuse(self, error, ask, *args):
        """Holds that the question is refused with just this class, and that nothing is changed."""
        before = state(self.panes)
        with self.assertRaises(LookError) as caught:
            ask(self.panes, *args)
        self.assertIs(type(caught.exception), error)
        self.assertEqual(state(self.panes), before)

    def hold(self, x, y, w, h):
        """Holds all that is told of a small box against shown_at, cell by cell."""
        places = cells_of_box((x, y, w, h))
        showing = {}
        for place in places:
            told = shown_at(self.panes, *place)
            showing.setdefault(told and told[0], set()).add(place)
        bare = region_by_rows(showing.pop(None, set()))
        shown = [(pane, region_by_rows(showing[pane])) for pane in sorted(showing)]
        self.assertEqual(bare_in(self.panes, x, y, w, h), bare, (x, y, w, h))
        self.assertEqual(shown_in(self.panes, x, y, w, h), shown, (x, y, w, h))
        if w in range(1, 61) and h in range(1, 61):
            self.hold_signs(x, y, w, h)

    def hold_signs(self, x, y, w, h):
        """Holds the drawing against shown_at and sign_at, sign by sign."""
        rows = []
        for row in range(y, y + h):
            told = [shown_at(self.panes, column, row) for column in range(x, x + w)]
            rows.append("".join(self.sheets.sign_at(*cell[1:]) if cell else "." for cell in told))
        self.assertEqual(drawn(self.panes, x, y, w, h), rows, (x, y, w, h))


class Interface(DrawingTest):
    def test_arguments(self):
        for name, arguments in ARGUMENTS.items():
            self.assertEqual(list(inspect.signature(getattr(drawing, name)).parameters), arguments, name)

    def test_kinds(self):
        self.pane(0, 0, 4, 4)
        self.pane(1, 1, 2, 2, 1)
        for told in (corner(self.panes, 2), area(self.panes, 1), area(self.panes, 2), shown_at(self.panes, 1, 1),
                     bare_in(self.panes, 0, 0, 9, 9), bare_in(self.panes, 0, 0, 1, 1)):
            self.assertIs(type(told), tuple)
            self.assertTrue(is_plain(told))
        for told in (drawing_order(self.panes), shown_in(self.panes, 0, 0, 5, 5)):
            self.assertIs(type(told), list)
            self.assertTrue(is_plain(tuple(told)))
        self.assertIs(type(drawn(self.panes, 0, 0, 5, 5)), list)
        self.assertTrue(all(type(row) is str for row in drawn(self.panes, 0, 0, 5, 5)))
        for region in [area(self.panes, 1), bare_in(self.panes, 0, 0, 9, 9), shown_in(self.panes, 0, 0, 5, 5)[0][1]]:
            self.assertIs(is_region(region), True)

    def test_no_pane_at_all(self):
        self.assertEqual(drawing_order(self.panes), [])
        self.assertIsNone(shown_at(self.panes, 0, 0))
        self.assertEqual(shown_in(self.panes, -5, -5, 10, 10), [])
        self.assertEqual(bare_in(self.panes, -5, -5, 10, 10), region_of_box(-5, -5, 10, 10))
        self.assertEqual(drawn(self.panes, -5, -5, 3, 2), ["...", "..."])


class Corner(DrawingTest):
    def test_in_the_plane(self):
        self.pane(3, -4, 2, 2)
        self.assertEqual(corner(self.panes, 1), (3, -4))

    def test_within_one_another(self):
        self.pane(3, -4, 9, 9)
        self.pane(10, 20, 9, 9, 1)
        self.pane(-1, -2, 9, 9, 2)
        self.pane(100, 0, 9, 9, 1)
        self.assertEqual([corner(self.panes, pane) for pane in (1, 2, 3, 4)], [(3, -4), (13, 16), (12, 14), (103, -4)])

    def test_hidden_cut_off_and_scrolled_ones_too(self):
        self.pane(3, 4, 1, 1)
        self.pane(50, 60, 1, 1, 1)
        self.panes.scroll(1, 7, 7)
        self.panes.scroll(2, -7, 7)
        self.panes.hide(1)
        self.panes.hide(2)
        self.assertEqual((corner(self.panes, 1), corner(self.panes, 2)), ((3, 4), (53, 64)))

    def test_behind_moves_and_other_parents(self):
        self.pane(1, 2, 5, 5)
        self.pane(10, 20, 5, 5)
        self.pane(100, 200, 5, 5, 2)
        self.panes.move(1, -1, -2)
        self.panes.put_into(2, 1)
        self.assertEqual([corner(self.panes, pane) for pane in (1, 2, 3)], [(-1, -2), (9, 18), (109, 218)])

    def test_far_off(self):
        self.pane(FAR, -FAR, 1, 1)
        self.pane(FAR, -FAR, 1, 1, 1)
        self.pane(-FAR, FAR, 1, 1, 2)
        self.assertEqual([corner(self.panes, pane) for pane in (1, 2, 3)],
                         [(FAR, -FAR), (2 * FAR, -2 * FAR), (FAR, -FAR)])

    def test_no_pane(self):
        self.pane(0, 0, 1, 1)
        self.panes.let_go(self.pane(0, 0, 1, 1))
        for pane in (0, 2, 3, -1, FAR, -FAR, HUGE):
            self.refuse(NoPane, corner, pane)
            self.refuse(NoPane, area, pane)

    def test_deep(self):
        inmost = self.nest(DEEP, 1, -2, 5, 5)
        self.assertEqual(corner(self.panes, inmost), (DEEP, -2 * DEEP))
        self.panes.move(1, FAR, FAR)
        self.assertEqual(corner(self.panes, inmost), (DEEP - 1 + FAR, FAR - 2 * DEEP + 2))


class Area(DrawingTest):
    def test_in_the_plane(self):
        self.pane(3, -4, 2, 5)
        self.assertEqual(area(self.panes, 1), region_of_box(3, -4, 2, 5))

    def test_beyond_the_sheet_and_under_others_too(self):
        self.pane(0, 0, 100, 100)
        self.pane(0, 0, 100, 100)
        self.pane(0, 0, 100, 100, 1)
        self.panes.scroll(1, 900, 900)
        for pane in (1, 2, 3):
            self.assertEqual(area(self.panes, pane), region_of_box(0, 0, 100, 100))

    def test_within_one_that_cuts_nothing_off(self):
        self.pane(10, 20, 9, 9)
        self.pane(2, 3, 4, 5, 1)
        self.pane(0, 0, 9, 9, 1)
        self.assertEqual(area(self.panes, 2), region_of_box(12, 23, 4, 5))
        self.assertEqual(area(self.panes, 3), region_of_box(10, 20, 9, 9))

    def test_cut_off_at_each_edge(self):
        self.pane(10, 20, 6, 5)
        cut = {(-2, 1, 4, 2): (10, 21, 2, 2), (4, 1, 4, 2): (14, 21, 2, 2), (1, -2, 2, 4): (11, 20, 2, 2),
               (1, 3, 2, 4): (11, 23, 2, 2), (-1, -1, 9, 9): (10, 20, 6, 5), (5, 4, 9, 9): (15, 24, 1, 1)}
        for box, left in cut.items():
            self.assertEqual(area(self.panes, self.pane(*box, 1)), region_of_box(*left), box)

    def test_cut_off_by_several(self):
        self.pane(0, 0, 10, 10)
        self.pane(5, 5, 10, 10, 1)
        self.pane(-3, 2, 7, 2, 2)
        self.pane(-10, -10, 40, 40, 3)
        self.assertEqual([area(self.panes, pane) for pane in (2, 3, 4)],
                         [region_of_box(5, 5, 5, 5), region_of_box(5, 7, 4, 2), region_of_box(5, 7, 4, 2)])
        self.pane(0, 0, 4, 40, 3)
        self.assertEqual(area(self.panes, 5), region_of_box(5, 7, 1, 2))

    def test_cut_off_by_all(self):
        self.pane(0, 0, 10, 10)
        for x, y in ((10, 0), (0, 10), (-3, 0), (0, -3), (11, 11), (FAR, 0), (0, -FAR)):
            pane = self.pane(x, y, 3, 3, 1)
            self.assertEqual(area(self.panes, pane), ())
            self.assertEqual(area(self.panes, self.pane(-x, -y, 3, 3, pane)), ())
            self.assertEqual(area(self.panes, self.pane(-FAR, -FAR, 2 * FAR, 2 * FAR, pane)), ())

    def test_cut_off_by_the_outermost_alone(self):
        self.pane(0, 0, 3, 3)
        self.pane(-5, -5, 20, 20, 1)
        self.pane(5, 5, 3, 3, 2)
        self.pane(8, 8, 3, 3, 2)
        self.assertEqual((area(self.panes, 3), area(self.panes, 4)), (region_of_box(0, 0, 3, 3), ()))

    def test_hidden_ones_and_those_within(self):
        self.pane(0, 0, 9, 9)
        self.pane(1, 1, 5, 5, 1)
        self.pane(1, 1, 2, 2, 2)
        whole = [region_of_box(0, 0, 9, 9), region_of_box(1, 1, 5, 5), region_of_box(2, 2, 2, 2)]
        for hidden in (1, 2, 3):
            self.panes.hide(hidden)
            areas = [area(self.panes, pane) for pane in (1, 2, 3)]
            self.assertEqual(areas, whole[:hidden - 1] + [()] * (4 - hidden))
            self.panes.show(hidden)
        self.assertEqual([area(self.panes, pane) for pane in (1, 2, 3)], whole)

    def test_far_off(self):
        self.pane(-FAR, FAR, 2 * FAR, FAR)
        self.pane(FAR, 5, FAR, FAR, 1)
        self.pane(-1, -1, 2, 2, 2)
        self.assertEqual([area(self.panes, pane) for pane in (1, 2, 3)],
                         [region_of_box(-FAR, FAR, 2 * FAR, FAR), region_of_box(0, FAR + 5, FAR, FAR - 5),
                          region_of_box(0, FAR + 5, 1, 1)])

    def test_deep(self):
        inmost = self.nest(DEEP, 1, 0, DEEP, 3)
        self.assertEqual(area(self.panes, inmost), region_of_box(DEEP, 0, 1, 3))
        self.assertEqual(area(self.panes, self.pane(0, 1, 9, 9, inmost)), region_of_box(DEEP, 1, 1, 2))
        self.assertEqual(area(self.panes, self.pane(1, 1, 9, 9, inmost)), ())
        self.panes.hide(1)
        self.assertEqual(area(self.panes, inmost), ())

    def test_a_region_may_be_handed_in(self):
        self.pane(2, 3, 6, 6)
        self.pane(1, 1, 3, 3, 1)
        ring = without(area(self.panes, 1), area(self.panes, 2))
        self.assertEqual(shown_in(self.panes, *bounds(area(self.panes, 1))), [(1, ring), (2, area(self.panes, 2))])


class DrawingOrder(DrawingTest):
    def test_brothers_in_their_order(self):
        for at in range(4):
            self.pane(at, at, 2, 2)
        self.assertEqual(drawing_order(self.panes), [1, 2, 3, 4])
        self.panes.lift(2)
        self.panes.sink(4)
        self.assertEqual(drawing_order(self.panes), [4, 1, 3, 2])

    def test_each_with_all_that_lies_in_it(self):
        self.pane(0, 0, 9, 9)
        self.pane(0, 0, 9, 9)
        self.pane(0, 0, 9, 9, 1)
        self.pane(0, 0, 9, 9, 2)
        self.pane(0, 0, 9, 9, 1)
        self.pane(0, 0, 9, 9, 3)
        self.assertEqual(drawing_order(self.panes), [1, 3, 6, 5, 2, 4])
        self.panes.lift(1)
        self.assertEqual(drawing_order(self.panes), [2, 4, 1, 3, 6, 5])
        self.panes.lift(3)
        self.assertEqual(drawing_order(self.panes), [2, 4, 1, 5, 3, 6])
        self.panes.put_into(5, 4)
        self.assertEqual(drawing_order(self.panes), [2, 4, 5, 1, 3, 6])

    def test_hidden_and_cut_off_ones_too(self):
        self.pane(0, 0, 9, 9)
        self.pane(50, 50, 9, 9, 1)
        self.pane(0, 0, 9, 9, 2)
        self.pane(0, 0, 9, 9)
        before = drawing_order(self.panes)
        for pane in (1, 2, 3, 4):
            self.panes.hide(pane)
            self.assertEqual(drawing_order(self.panes), before)
        self.assertEqual(before, [1, 2, 3, 4])

    def test_deep(self):
        self.nest(DEEP, 0, 0, 5, 5)
        over = self.pane(0, 0, 5, 5)
        self.assertEqual(drawing_order(self.panes), list(range(1, over + 1)))
        beside = self.pane(0, 0, 5, 5, 1)
        self.assertEqual(drawing_order(self.panes), list(range(1, over)) + [beside, over])


class ShownAt(DrawingTest):
    def test_the_edges_of_a_pane(self):
        self.pane(2, 3, 4, 2)
        for x in range(0, 9):
            for y in range(0, 8):
                told = (1, 0, x - 2, y - 3) if 2 <= x < 6 and 3 <= y < 5 else None
                self.assertEqual(shown_at(self.panes, x, y), told, (x, y))

    def test_the_start(self):
        self.pane(2, 3, 4, 2)
        self.panes.scroll(1, 5, -7)
        self.assertEqual(shown_at(self.panes, 2, 3), (1, 0, 5, -7))
        self.assertEqual(shown_at(self.panes, 5, 4), (1, 0, 8, -6))

    def test_the_sheet(self):
        self.pane(0, 0, 4, 2)
        self.pane(9, 0, 4, 2, 0, 1)
        self.panes.scroll(1, 1, 1)
        self.assertEqual((shown_at(self.panes, 0, 0), shown_at(self.panes, 9, 0)), ((1, 0, 1, 1), (2, 1, 0, 0)))
        self.panes.turn(1, 1)
        self.assertEqual(shown_at(self.panes, 0, 0), (1, 1, 1, 1))

    def test_beyond_the_sheet(self):
        self.pane(0, 0, 90, 90, 0, 1)
        self.assertEqual(shown_at(self.panes, 2, 2), (1, 1, 2, 2))
        self.assertEqual(shown_at(self.panes, 3, 2), (1, 1, 3, 2))
        self.assertEqual(shown_at(self.panes, 89, 89), (1, 1, 89, 89))
        self.panes.scroll(1, -FAR, FAR)
        self.assertEqual(shown_at(self.panes, 89, 1), (1, 1, 89 - FAR, FAR + 1))

    def test_one_over_another(self):
        self.pane(0, 0, 4, 4)
        self.pane(2, 2, 4, 4)
        self.assertEqual(shown_at(self.panes, 3, 3), (2, 0, 1, 1))
        self.assertEqual(shown_at(self.panes, 1, 1), (1, 0, 1, 1))
        self.panes.lift(1)
        self.assertEqual(shown_at(self.panes, 3, 3), (1, 0, 3, 3))
        self.assertEqual(shown_at(self.panes, 4, 4), (2, 0, 2, 2))

    def test_a_blank_beyond_the_sheet_hides_what_lies_under_it(self):
        self.pane(0, 0, 4, 4)
        self.pane(0, 0, 4, 4, 0, 1)
        self.panes.scroll(2, 50, 50)
        self.assertEqual(shown_at(self.panes, 0, 0), (2, 1, 50, 50))

    def test_within_one_another(self):
        self.pane(10, 10, 6, 6)
        self.pane(1, 1, 9, 2, 1, 1)
        self.pane(1, 1, 9, 9, 2)
        self.panes.scroll(1, 100, 100)
        self.assertEqual(shown_at(self.panes, 10, 10), (1, 0, 100, 100))
        self.assertEqual(shown_at(self.panes, 11, 11), (2, 1, 0, 0))
        self.assertEqual(shown_at(self.panes, 12, 12), (3, 0, 0, 0))
        self.assertEqual(shown_at(self.panes, 12, 13), (1, 0, 102, 103))
        self.assertEqual(shown_at(self.panes, 15, 12), (3, 0, 3, 0))
        self.assertIsNone(shown_at(self.panes, 16, 12))

    def test_what_lies_in_a_lower_one_is_under_a_higher_one(self):
        self.pane(0, 0, 9, 9)
        self.pane(2, 2, 3, 3)
        self.pane(2, 2, 9, 9, 1)
        self.assertEqual(shown_at(self.panes, 2, 2), (2, 0, 0, 0))
        self.assertEqual(shown_at(self.panes, 5, 5), (3, 0, 3, 3))

    def test_hidden_ones(self):
        self.pane(0, 0, 9, 9)
        self.pane(1, 1, 5, 5, 1)
        self.pane(1, 1, 2, 2, 2)
        self.panes.hide(2)
        self.assertEqual(shown_at(self.panes, 2, 2), (1, 0, 2, 2))
        self.panes.hide(1)
        self.panes.show(2)
        self.assertIsNone(shown_at(self.panes, 2, 2))
        self.panes.show(1)
        self.assertEqual(shown_at(self.panes, 2, 2), (3, 0, 0, 0))

    def test_a_hidden_brother_over_it(self):
        self.pane(0, 0, 9, 9)
        self.pane(0, 0, 9, 9)
        self.panes.hide(2)
        self.assertEqual(shown_at(self.panes, 0, 0), (1, 0, 0, 0))

    def test_far_off(self):
        self.pane(FAR, -FAR, FAR, 2)
        self.assertEqual(shown_at(self.panes, FAR, -FAR), (1, 0, 0, 0))
        self.assertEqual(shown_at(self.panes, 2 * FAR - 1, 1 - FAR), (1, 0, FAR - 1, 1))
        for x, y in ((FAR - 1, -FAR), (2 * FAR, -FAR), (FAR, 2 - FAR), (FAR, -FAR - 1), (-FAR, FAR), (0, 0)):
            self.assertIsNone(shown_at(self.panes, x, y))
        self.panes.scroll(1, FAR, FAR)
        self.assertEqual(shown_at(self.panes, 2 * FAR - 1, -FAR), (1, 0, 2 * FAR - 1, FAR))

    def test_deep(self):
        inmost = self.nest(DEEP, 1, 0, DEEP, 3)
        self.assertEqual(shown_at(self.panes, DEEP, 2), (inmost, 0, 0, 2))
        self.assertEqual(shown_at(self.panes, DEEP - 1, 2), (inmost - 1, 0, 0, 2))
        self.assertEqual(shown_at(self.panes, 1, 0), (1, 0, 0, 0))
        self.assertIsNone(shown_at(self.panes, 0, 0))
        self.assertIsNone(shown_at(self.panes, DEEP + 1, 2))
        self.panes.hide(inmost - 1)
        self.assertEqual(shown_at(self.panes, DEEP, 2), (inmost - 2, 0, 2, 2))


class ShownInAndBareIn(DrawingTest):
    def test_told_by_hand(self):
        self.pane(0, 0, 4, 2)
        self.pane(2, 1, 4, 2)
        self.assertEqual(shown_in(self.panes, -1, -1, 9, 9), [(1, ((0, 1, ((0, 4),)), (1, 2, ((0, 2),)))),
                                                            (2, ((1, 3, ((2, 6),)),))])
        self.assertEqual(bare_in(self.panes, 0, 0, 6, 3), ((0, 1, ((4, 6),)), (2, 3, ((0, 2),))))

    def test_by_rising_pane_whatever_their_order(self):
        for at in range(5):
            self.pane(2 * at, 0, 1, 1)
        self.panes.sink(4)
        self.panes.lift(2)
        self.panes.put_into(5, 1)
        self.panes.resize(1, 10, 1)
        self.assertEqual([pane for pane, _ in shown_in(self.panes, 0, 0, 20, 1)], [1, 2, 3, 5])
        self.hold(0, 0, 20, 1)

    def test_one_that_no_cell_shows_is_not_told(self):
        self.pane(0, 0, 2, 2)
        self.pane(0, 0, 3, 3)
        self.pane(9, 9, 2, 2)
        self.pane(20, 20, 2, 2, 2)
        self.pane(0, 0, 3, 3)
        self.panes.hide(5)
        self.assertEqual(shown_in(self.panes, 0, 0, 5, 5), [(2, region_of_box(0, 0, 3, 3))])

    def test_a_part_that_is_in_the_box_alone(self):
        self.pane(0, 0, 10, 10)
        self.assertEqual(shown_in(self.panes, 5, -3, 20, 5), [(1, region_of_box(5, 0, 5, 2))])
        self.assertEqual(bare_in(self.panes, 5, -3, 20, 5), ((-3, 0, ((5, 25),)), (0, 2, ((10, 25),))))

    def test_sizes_below_1(self):
        self.pane(-5, -5, 20, 20)
        for w, h in ((0, 0), (0, 3), (3, 0), (-1, 3), (3, -1), (-2, -2), (-FAR, FAR), (FAR, -FAR), (0, FAR)):
            for x, y in ((0, 0), (2, 2), (-FAR, FAR)):
                self.assertEqual(shown_in(self.panes, x, y, w, h), [])
                self.assertEqual(bare_in(self.panes, x, y, w, h), ())

    def test_great_boxes(self):
        self.pane(0, 0, 3, 3)
        self.pane(1, 1, 1, 1, 1)
        ring = without(region_of_box(0, 0, 3, 3), region_of_box(1, 1, 1, 1))
        box = (-FAR, -FAR, 2 * FAR, 2 * FAR)
        self.assertEqual(shown_in(self.panes, *box), [(1, ring), (2, region_of_box(1, 1, 1, 1))])
        self.assertEqual(bare_in(self.panes, *box), without(region_of_box(*box), region_of_box(0, 0, 3, 3)))

    def test_great_panes(self):
        self.pane(-FAR, -FAR, 2 * FAR, 2 * FAR)
        self.pane(FAR, FAR, 5, FAR)
        self.assertEqual(shown_in(self.panes, 0, 0, 9, 9), [(1, region_of_box(0, 0, 9, 9))])
        self.assertEqual(bare_in(self.panes, 0, 0, 9, 9), ())
        self.assertEqual(shown_in(self.panes, FAR - 1, FAR - 1, 9, 9), [(1, region_of_box(FAR - 1, FAR - 1, 1, 1)),
                                                                      (2, region_of_box(FAR, FAR, 5, 8))])

    def test_far_off_as_near_by(self):
        self.pane(0, 0, 5, 5)
        self.pane(2, 2, 5, 2, 1)
        self.pane(3, -1, 3, 3)
        self.hold(-2, -2, 10, 10)
        near = drawn(self.panes, -2, -2, 10, 10)
        self.panes.move(1, FAR, -FAR)
        self.panes.move(3, FAR + 3, -FAR - 1)
        self.hold(FAR - 2, -FAR - 2, 10, 10)
        self.assertEqual(drawn(self.panes, FAR - 2, -FAR - 2, 10, 10), near)
        self.hold(-2, -2, 10, 10)
        self.assertEqual(shown_in(self.panes, -2, -2, 10, 10), [])

    def test_of_a_box_held_cell_by_cell(self):
        self.pane(0, 0, 7, 5)
        self.pane(4, 2, 6, 6, 0, 1)
        self.pane(-2, 1, 5, 3, 1)
        self.pane(1, 1, 9, 2, 2)
        self.panes.scroll(2, -2, -1)
        for x in range(-4, 12, 3):
            for y in range(-3, 9, 3):
                for w, h in ((1, 1), (3, 2), (12, 12), (0, 4)):
                    self.hold(x, y, w, h)

    def test_deep(self):
        inmost = self.nest(DEEP, 1, 0, DEEP, 3)
        told = shown_in(self.panes, 0, -1, 2 * DEEP, 5)
        self.assertEqual([pane for pane, _ in told], list(range(1, inmost + 1)))
        self.assertTrue(all(region == region_of_box(pane, 0, 1, 3) for pane, region in told))
        self.assertEqual(bare_in(self.panes, 0, 0, 2 * DEEP, 3), ((0, 3, ((0, 1), (DEEP + 1, 2 * DEEP))),))
        self.hold(DEEP - 5, -1, 8, 5)

    def test_many_panes_in_a_great_box(self):
        chance = random.Random(16)
        for _ in range(200):
            self.pane(chance.randint(0, 900), chance.randint(0, 900), chance.randint(1, 90), chance.randint(1, 90),
                      chance.choice([0, 0, 0, max([0] + self.panes.all_panes())]))
        told = dict(shown_in(self.panes, -FAR, -FAR, 2 * FAR, 2 * FAR))
        told[None] = bare_in(self.panes, -FAR, -FAR, 2 * FAR, 2 * FAR)
        self.assertEqual(sum(cells_in(region) for region in told.values()), 4 * FAR * FAR)
        for _ in range(500):
            x, y = chance.randint(-20, 1000), chance.randint(-20, 1000)
            shown = shown_at(self.panes, x, y)
            having = [pane for pane, region in told.items() if has_cell(region, x, y)]
            self.assertEqual(having, [shown and shown[0]])

    def test_deep_and_all_over_one_another(self):
        inmost = self.nest(DEEP, 0, 0, 5, 3)
        self.assertEqual(shown_in(self.panes, -1, -1, 9, 9), [(inmost, region_of_box(0, 0, 5, 3))])
        self.panes.hide(DEEP // 2)
        self.assertEqual(shown_in(self.panes, -1, -1, 9, 9), [(DEEP // 2 - 1, region_of_box(0, 0, 5, 3))])


class Drawn(DrawingTest):
    def test_told_by_hand(self):
        self.pane(1, 1, 4, 2)
        self.pane(3, 2, 4, 3, 0, 1)
        self.assertEqual(drawn(self.panes, 0, 0, 8, 6),
                         ["........", ".0123...", ".abbbb .", "...bbb .", "...bbb .", "........"])
        self.assertEqual(drawn(self.panes, 3, 1, 2, 3), ["23", "bb", "bb"])

    def test_blanks_beyond_the_sheet(self):
        self.pane(0, 0, 5, 5, 0, 1)
        self.panes.scroll(1, -1, -1)
        self.assertEqual(drawn(self.panes, 0, 0, 6, 6),
                         ["     .", " bbb .", " bbb .", " bbb .", "     .", "......"])
        self.panes.scroll(1, FAR, -FAR)
        self.assertEqual(drawn(self.panes, 0, 0, 5, 1), ["     "])

    def test_the_start(self):
        self.pane(0, 0, 4, 2)
        self.panes.scroll(1, 2, 1)
        self.assertEqual(drawn(self.panes, 0, 0, 4, 2), ["cdef", "aaaa"])

    def test_two_panes_show_the_same_sheet(self):
        self.pane(0, 0, 4, 1)
        self.pane(4, 0, 4, 1)
        self.assertEqual(drawn(self.panes, 0, 0, 8, 1), ["01230123"])
        self.sheets.write(0, 1, 0, "xy")
        self.assertEqual(drawn(self.panes, 0, 0, 8, 1), ["0xy30xy3"])

    def test_what_is_written_later_counts(self):
        self.pane(0, 0, 3, 2, 0, 1)
        self.sheets.fill(1, 1, 0, 1, 9, "z")
        self.assertEqual(drawn(self.panes, 0, 0, 3, 2), ["bzb", "bzb"])
        self.sheets.make(1, 1, "n")
        self.panes.turn(1, 2)
        self.assertEqual(drawn(self.panes, 0, 0, 3, 2), ["n  ", "   "])

    def test_sizes_at_the_limits(self):
        self.pane(5, 5, 100, 3)
        for w, h in ((1, 1), (1, 60), (60, 1), (60, 60)):
            rows = drawn(self.panes, 0, 0, w, h)
            self.assertEqual(([len(row) for row in rows], len(rows)), ([w] * h, h))
            self.hold_signs(3, 4, w, h)

    def test_sizes_beyond_the_limits(self):
        self.pane(0, 0, 9, 9)
        for wrong in (0, -1, 61, 62, -60, FAR, -FAR, HUGE, -HUGE):
            for w, h in ((wrong, 5), (5, wrong), (wrong, wrong), (1, wrong), (60, wrong), (wrong, 60)):
                self.refuse(NoSize, drawn, 0, 0, w, h)

    def test_far_off(self):
        self.pane(FAR, -FAR, 3, 1)
        self.assertEqual(drawn(self.panes, FAR - 1, -FAR - 1, 5, 3), [".....", ".012.", "....."])
        self.assertEqual(drawn(self.panes, -FAR, FAR, 2, 1), [".."])

    def test_two_planes_over_the_same_sheets(self):
        other = Panes(self.sheets)
        other.open_pane(0, 0, 1, 0, 2, 1)
        self.assertEqual(drawn(self.panes, 0, 0, 4, 1), ["...."])
        self.assertEqual(drawn(other, 0, 0, 4, 1), [".01."])

    def test_deep(self):
        self.nest(DEEP, 1, 0, DEEP, 2)
        self.assertEqual(drawn(self.panes, DEEP - 2, 0, 5, 3), ["000..", "aaa..", "....."])


class Lists(DrawingTest):
    def test_told_lists_are_the_askers_own(self):
        self.pane(0, 0, 4, 4)
        self.pane(1, 1, 2, 2, 1)
        before = state(self.panes)
        for ask in (lambda: drawing_order(self.panes), lambda: shown_in(self.panes, 0, 0, 5, 5),
                    lambda: drawn(self.panes, 0, 0, 5, 5)):
            kept, told = ask(), ask()
            self.assertIsNot(kept, told)
            told.append("more")
            told[0] = "other"
            self.assertEqual(ask(), kept)
            self.assertEqual(state(self.panes), before)

    def test_nothing_done_later_changes_them(self):
        self.pane(0, 0, 2, 1)
        told = (drawing_order(self.panes), shown_in(self.panes, 0, 0, 3, 1), drawn(self.panes, 0, 0, 3, 1))
        self.sheets.write(0, 0, 0, "zz")
        self.pane(0, 0, 3, 1)
        self.panes.let_go(1)
        self.assertEqual(told, ([1], [(1, region_of_box(0, 0, 2, 1))], ["01."]))

    def test_questions_change_nothing(self):
        self.pane(0, 0, 4, 4)
        self.pane(1, 1, 2, 2, 1)
        self.panes.hide(2)
        before = state(self.panes)
        corner(self.panes, 2), area(self.panes, 2), drawing_order(self.panes), shown_at(self.panes, 1, 1)
        shown_in(self.panes, 0, 0, 9, 9), bare_in(self.panes, 0, 0, 9, 9), drawn(self.panes, 0, 0, 9, 9)
        self.assertEqual(state(self.panes), before)


class ManyScenes(DrawingTest):
    """Scenes of many panes, each held against a painting cell by cell."""

    FRAME = (-14, -14, 30, 30)

    def scene(self, chance):
        self.panes = Panes(self.sheets)
        for _ in range(chance.randint(1, 14)):
            parent = chance.choice([0, 0] + self.panes.all_panes())
            reach = 9 if parent == 0 else 4
            pane = self.pane(chance.randint(-reach, reach), chance.randint(-reach, reach), chance.randint(1, 9),
                             chance.randint(1, 9), parent, chance.randint(0, 1))
            self.panes.scroll(pane, chance.randint(-3, 5), chance.randint(-3, 3))
            if chance.random() < 0.12:
                self.panes.hide(pane)
            if chance.random() < 0.3:
                chance.choice([self.panes.lift, self.panes.sink])(chance.choice(self.panes.all_panes()))

    def hold_scene(self, cells):
        board, areas = paint(self.panes, cells)
        for place in cells:
            self.assertEqual(shown_at(self.panes, *place), board.get(place))
        self.assertEqual(drawing_order(self.panes), order_by_calls(self.panes))
        for pane in self.panes.all_panes():
            self.assertEqual(cells_of(area(self.panes, pane)) & cells, areas[pane])
            self.assertIs(is_region(area(self.panes, pane)), True)
        return board

    def hold_box(self, board, x, y, w, h):
        """Holds what is told of a box against the painting, and that its parts make up the box."""
        places = cells_of_box((x, y, w, h))
        told = shown_in(self.panes, x, y, w, h)
        whole = bare_in(self.panes, x, y, w, h)
        self.assertEqual(whole, region_by_rows({place for place in places if place not in board}))
        for pane, region in told:
            cells = {place for place in places if board.get(place, (0,))[0] == pane}
            self.assertEqual(region, region_by_rows(cells))
            whole = either(whole, region)
        self.assertEqual(whole, region_of_box(x, y, w, h))
        self.assertEqual([pane for pane, _ in told], sorted({board[place][0] for place in places if place in board}))

    def test_against_a_painting(self):
        chance = random.Random(17)
        cells = cells_of_box(self.FRAME)
        for _ in range(40):
            self.scene(chance)
            board = self.hold_scene(cells)
            self.hold_box(board, *self.FRAME)
            for _ in range(6):
                box = (chance.randint(-14, 10), chance.randint(-14, 10), chance.randint(-1, 6), chance.randint(-1, 6))
                self.hold_box(board, *box)
                self.hold(*box)
            self.hold_signs(*self.FRAME)


if __name__ == "__main__":
    unittest.main()
