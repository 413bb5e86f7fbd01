"""[18], [19], [20] and [4]: viewers, the steps of their refreshings, and their boards."""

import inspect
import random
import unittest
from collections import Counter

from cells import DEEP, FAR, HUGE, SceneTest, cells_of, cells_of_box, is_plain, region_by_rows, some_deed, state
from panelook.drawing import drawn, shown_at
from panelook.errors import LookError, NoPane, NoSheet, NoSize
from panelook.panes import Panes
from panelook.regions import is_region, region_of, region_of_box
from panelook.sets import has_cell, without
from panelook.viewers import Viewer

ARGUMENTS = {"pan": ["x", "y"], "refresh": [], "board": [], "window": [], "is_stale": []}


class Watch:
    """A viewer, with what each cell of its board has shown since its last refreshing held beside it."""

    def __init__(self, test, panes, x, y, w, h):
        self.test = test
        self.panes = panes
        self.viewer = Viewer(panes, x, y, w, h)
        self.shown = {}
        self.count = 0

    def shown_now(self):
        """What each cell of the board would show now."""
        x, y, w, h = self.viewer.window()
        return {(at, row): shown_at(self.panes, x + at, y + row) for at, row in cells_of_box((0, 0, w, h))}

    def steps_due(self):
        """The steps that are due now, found cell by cell as [19] tells them."""
        sheets = self.panes.sheets_kept()
        met = [sheets.met(sheet, self.count) for sheet in range(sheets.how_many())]
        places = {shown: place for place, shown in self.shown.items() if shown}
        shifts, paints = {}, {}
        for place, shown in self.shown_now().items():
            if shown is None:
                if place not in self.shown or self.shown[place] is not None:
                    paints.setdefault(0, set()).add(place)
            elif shown in places and not has_cell(met[shown[1]], *shown[2:]):
                by = (place[0] - places[shown][0], place[1] - places[shown][1])
                shifts.setdefault(by, set()).add(place)
            else:
                paints.setdefault(shown[0], set()).add(place)
        shifts.pop((0, 0), None)
        return ([("shift", *by, region_by_rows(shifts[by])) for by in sorted(shifts)] +
                [("paint", pane, region_by_rows(paints[pane])) for pane in sorted(paints)])

    def followed(self, board, steps):
        """The board with the steps put to it, cell by cell as [20] tells it."""
        signs = {(x, y): sign for y, row in enumerate(board) for x, sign in enumerate(row)}
        new = dict(signs)
        now = self.shown_now()
        for kind, *rest, region in steps:
            for x, y in cells_of(region):
                if kind == "shift":
                    new[x, y] = signs[x - rest[0], y - rest[1]]
                else:
                    self.test.assertEqual(now[x, y][0] if now[x, y] else 0, rest[0])
                    new[x, y] = self.panes.sheets_kept().sign_at(*now[x, y][1:]) if rest[0] else "."
        return ["".join(new[x, y] for x in range(len(row))) for y, row in enumerate(board)]

    def refresh(self):
        """Refreshes the viewer, holds all that is told by it, and tells the steps."""
        test, viewer = self.test, self.viewer
        old, window, due, before = viewer.board(), viewer.window(), self.steps_due(), state(self.panes)
        test.assertIs(viewer.is_stale(), bool(due))
        test.assertEqual(viewer.board(), old)
        steps = viewer.refresh()
        test.assertEqual(steps, due)
        test.assertEqual(viewer.board(), self.followed(old, steps))
        test.assertEqual(viewer.board(), drawn(self.panes, *window))
        test.assertEqual(viewer.window(), window)
        test.assertIs(viewer.is_stale(), False)
        test.assertEqual(state(self.panes), before)
        self.shown = self.shown_now()
        self.count = self.panes.sheets_kept().written()
        return steps


class ViewerTest(SceneTest):
    def watch(self, x, y, w, h, panes=None):
        """A viewer that was refreshed once."""
        watch = Watch(self, panes or self.panes, x, y, w, h)
        watch.refresh()
        return watch


class Interface(ViewerTest):
    def test_arguments(self):
        self.assertEqual(list(inspect.signature(Viewer).parameters), ["panes", "x", "y", "w", "h"])
        for name, arguments in ARGUMENTS.items():
            self.assertIn(name, vars(Viewer))
            self.assertEqual(list(inspect.signature(vars(Viewer)[name]).parameters)[1:], arguments, name)

    def test_kinds(self):
        self.pane(1, 1, 2, 2)
        viewer = Viewer(self.panes, 0, 0, 5, 4)
        for told in (viewer.is_stale(), (viewer.refresh(), viewer.is_stale())[1]):
            self.assertIs(type(told), bool)
        self.assertIsNone(viewer.pan(1, 0))
        self.assertTrue(is_plain(viewer.window()))
        self.assertIs(type(viewer.board()), list)
        self.assertTrue(all(type(row) is str for row in viewer.board()))
        steps = viewer.refresh()
        self.assertIs(type(steps), list)
        self.assertEqual([(step[0], len(step)) for step in steps], [("shift", 4), ("paint", 3)])
        for step in steps:
            self.assertIs(type(step), tuple)
            self.assertTrue(is_plain(step[1:]))
            self.assertIs(is_region(step[-1]), True)


class Window(ViewerTest):
    def test_sizes_at_the_limits(self):
        self.pane(1, 1, 90, 90)
        for w in (1, 2, 59, 60):
            for h in (1, 2, 59, 60):
                viewer = Viewer(self.panes, -1, -2, w, h)
                self.assertEqual(viewer.window(), (-1, -2, w, h))
                self.assertEqual(viewer.board(), [" " * w] * h)
                viewer.refresh()
                self.assertEqual(viewer.board(), drawn(self.panes, -1, -2, w, h))

    def test_sizes_beyond_the_limits(self):
        self.pane(0, 0, 9, 9)
        before = state(self.panes)
        for wrong in (0, -1, 61, 62, -60, FAR, -FAR, HUGE, -HUGE):
            for w, h in ((wrong, 5), (5, wrong), (wrong, wrong), (1, wrong), (60, wrong), (wrong, 60)):
                with self.assertRaises(LookError) as caught:
                    Viewer(self.panes, 0, 0, w, h)
                self.assertIs(type(caught.exception), NoSize)
        self.assertEqual(state(self.panes), before)

    def test_blanks_ahead_of_the_first_refreshing(self):
        self.pane(0, 0, 4, 2)
        viewer = Viewer(self.panes, 0, 0, 5, 3)
        self.assertEqual(viewer.board(), ["     "] * 3)
        viewer.pan(-1, 0)
        self.panes.move(1, 1, 1)
        self.sheets.write(0, 0, 0, "xyz")
        self.assertIs(viewer.is_stale(), True)
        self.assertEqual(viewer.board(), ["     "] * 3)
        self.assertEqual(viewer.window(), (-1, 0, 5, 3))
        viewer.refresh()
        self.assertEqual(viewer.board(), [".....", "..xyz", "..abc"])

    def test_panning_changes_the_board_at_the_next_refreshing(self):
        self.pane(0, 0, 4, 2)
        viewer = Viewer(self.panes, 0, 0, 5, 2)
        viewer.refresh()
        viewer.pan(1, 1)
        self.assertEqual(viewer.window(), (1, 1, 5, 2))
        self.assertEqual(viewer.board(), ["0123.", "abcd."])
        viewer.refresh()
        self.assertEqual(viewer.board(), ["bcd..", "....."])

    def test_deeds_change_the_board_at_the_next_refreshing(self):
        self.pane(0, 0, 4, 2)
        viewer = Viewer(self.panes, 0, 0, 5, 2)
        viewer.refresh()
        for deed in (lambda: self.panes.move(1, 1, 0), lambda: self.sheets.fill(0, 0, 0, 9, 9, "z"),
                     lambda: self.panes.turn(1, 1), lambda: self.panes.let_go(1)):
            board = viewer.board()
            deed()
            self.assertEqual(viewer.board(), board)
            viewer.refresh()
            self.assertNotEqual(viewer.board(), board)

    def test_the_panes_are_kept(self):
        viewer = Viewer(self.panes, 0, 0, 3, 1)
        viewer.refresh()
        self.pane(1, 0, 2, 1)
        viewer.refresh()
        self.assertEqual(viewer.board(), [".01"])
        self.sheets.make(1, 1, "n")
        self.panes.turn(1, 2)
        viewer.refresh()
        self.assertEqual(viewer.board(), [".n "])

    def test_far_off_as_near_by(self):
        steps = []
        for x, y in ((0, 0), (FAR, -FAR), (-FAR, FAR), (HUGE, -HUGE)):
            self.panes = Panes(self.sheets)
            self.pane(x + 1, y, 4, 3)
            watch = self.watch(x, y, 6, 4)
            self.panes.move(1, x + 2, y + 1)
            steps.append(watch.refresh())
            watch.viewer.pan(x + 1, y - 1)
            steps.append(watch.refresh())
            self.assertEqual(watch.viewer.board(), ["......", "......", ".0123.", ".abcd."])
        self.assertEqual(steps, steps[:2] * 4)

    def test_panned_far_off_and_back_with_a_refreshing_between(self):
        self.pane(0, 0, 3, 1)
        watch = self.watch(0, 0, 4, 1)
        for x, y in ((FAR, 0), (0, -FAR), (-HUGE, HUGE)):
            watch.viewer.pan(x, y)
            self.assertEqual(watch.refresh(), [("paint", 0, region_of_box(0, 0, 3, 1))])
            watch.viewer.pan(0, 0)
            self.assertEqual(watch.refresh(), [("paint", 1, region_of_box(0, 0, 3, 1))])

    def test_panned_far_off_and_back_without_one(self):
        self.pane(0, 0, 3, 1)
        watch = self.watch(0, 0, 4, 1)
        for x, y in ((1, 0), (0, -1), (FAR, -FAR), (-HUGE, 0)):
            watch.viewer.pan(x, y)
            self.assertIs(watch.viewer.is_stale(), True)
            watch.viewer.pan(0, 0)
            self.assertEqual(watch.refresh(), [])


class FirstRefreshing(ViewerTest):
    def test_no_pane(self):
        viewer = Viewer(self.panes, 0, 0, 3, 2)
        self.assertEqual(viewer.refresh(), [("paint", 0, region_of_box(0, 0, 3, 2))])
        self.assertEqual(viewer.board(), ["...", "..."])
        self.assertEqual(viewer.refresh(), [])

    def test_a_pane_over_all(self):
        self.pane(-1, -1, 9, 9)
        viewer = Viewer(self.panes, 0, 0, 3, 2)
        self.assertEqual(viewer.refresh(), [("paint", 1, region_of_box(0, 0, 3, 2))])
        self.assertEqual(viewer.board(), ["bcd", "aaa"])
        self.assertEqual(viewer.refresh(), [])

    def test_panes_and_none(self):
        self.pane(3, 0, 2, 9)
        self.pane(0, 1, 4, 1)
        self.pane(40, 40, 2, 2)
        self.panes.sink(2)
        viewer = Viewer(self.panes, -1, 0, 5, 3)
        steps = [("paint", 0, ((0, 1, ((0, 4),)), (1, 2, ((0, 1),)), (2, 3, ((0, 4),)))),
                 ("paint", 1, ((0, 3, ((4, 5),)),)), ("paint", 2, ((1, 2, ((1, 4),)),))]
        self.assertEqual(viewer.refresh(), steps)
        self.assertEqual(viewer.board(), ["....0", ".012a", "....a"])

    def test_what_was_written_ahead_of_it_is_painted_once(self):
        self.pane(0, 0, 3, 2)
        viewer = Viewer(self.panes, 0, 0, 3, 2)
        self.sheets.write(0, 0, 0, "xyz")
        self.assertEqual(viewer.refresh(), [("paint", 1, region_of_box(0, 0, 3, 2))])
        self.assertEqual(viewer.refresh(), [])

    def test_blanks_that_stand_there_already_are_painted(self):
        self.pane(0, 0, 3, 2)
        self.panes.scroll(1, 50, 50)
        viewer = Viewer(self.panes, 0, 0, 3, 2)
        self.assertIs(viewer.is_stale(), True)
        self.assertEqual(viewer.refresh(), [("paint", 1, region_of_box(0, 0, 3, 2))])


class Shifts(ViewerTest):
    def test_a_pane_is_moved(self):
        self.pane(1, 1, 3, 2)
        watch = self.watch(0, 0, 6, 4)
        self.panes.move(1, 2, 1)
        self.assertEqual(watch.refresh(), [("shift", 1, 0, region_of_box(2, 1, 3, 2)),
                                           ("paint", 0, region_of_box(1, 1, 1, 2))])
        self.panes.move(1, 0, 0)
        self.assertEqual(watch.refresh(), [("shift", -2, -1, region_of_box(0, 0, 3, 2)),
                                           ("paint", 0, ((1, 2, ((3, 5),)), (2, 3, ((2, 5),))))])

    def test_all_at_once(self):
        # Each takes the other's place, so that one shift after the other would read what is shifted already.
        self.pane(0, 0, 3, 2)
        self.pane(3, 0, 3, 2, 0, 1)
        watch = self.watch(0, 0, 6, 2)
        self.panes.move(1, 3, 0)
        self.panes.move(2, 0, 0)
        self.assertEqual(watch.refresh(), [("shift", -3, 0, region_of_box(0, 0, 3, 2)),
                                           ("shift", 3, 0, region_of_box(3, 0, 3, 2))])
        self.assertEqual(watch.viewer.board(), ["bbb012", "bbbabc"])

    def test_paints_come_behind_all_shifts(self):
        self.pane(0, 0, 2, 1)
        self.pane(2, 0, 2, 1)
        watch = self.watch(0, 0, 4, 1)
        self.panes.move(2, 0, 0)
        self.panes.move(1, 2, 0)
        self.sheets.write(0, 0, 0, "z")
        self.assertEqual(watch.refresh(), [("shift", -2, 0, region_of_box(1, 0, 1, 1)),
                                           ("shift", 2, 0, region_of_box(3, 0, 1, 1)),
                                           ("paint", 1, region_of_box(2, 0, 1, 1)),
                                           ("paint", 2, region_of_box(0, 0, 1, 1))])
        self.assertEqual(watch.viewer.board(), ["z1z1"])

    def test_over_its_own_old_cells(self):
        self.pane(0, 0, 8, 4)
        watch = self.watch(0, 0, 8, 4)
        for x, y in ((1, 0), (0, 1), (-1, -1), (2, 1), (-3, 2), (0, 0)):
            self.panes.move(1, x, y)
            watch.refresh()

    def test_by_rising_steps(self):
        corners = [(0, 0), (20, 0), (0, 20), (20, 20), (10, 10), (30, 5), (5, 30)]
        bys = [(3, -1), (-2, 5), (-2, -5), (0, 4), (0, -4), (10, 0), (-10, 0)]
        for x, y in corners:
            self.pane(x, y, 1, 1)
        watch = self.watch(-10, -10, 60, 60)
        for at, (x, y) in enumerate(corners):
            self.panes.move(at + 1, x + bys[at][0], y + bys[at][1])
        steps = watch.refresh()
        self.assertEqual([step[1:3] for step in steps if step[0] == "shift"], sorted(bys))
        self.assertEqual([step[0] for step in steps], ["shift"] * 7 + ["paint"])

    def test_panes_that_are_moved_alike_share_one_shift(self):
        self.pane(0, 0, 2, 1)
        self.pane(2, 0, 2, 1, 0, 1)
        self.pane(9, 3, 1, 1)
        watch = self.watch(0, 0, 12, 6)
        for pane, x, y in ((1, 1, 1), (2, 3, 1), (3, 10, 4)):
            self.panes.move(pane, x, y)
        steps = watch.refresh()
        self.assertEqual(steps[0], ("shift", 1, 1, region_of([(1, 1, 4, 1), (10, 4, 1, 1)])))
        self.assertEqual([step[:2] for step in steps[1:]], [("paint", 0)])

    def test_panned(self):
        self.pane(1, 1, 3, 2)
        watch = self.watch(0, 0, 6, 4)
        watch.viewer.pan(1, 1)
        # Cells that show no pane are never shifted: they are painted where they did show one.
        self.assertEqual(watch.refresh(), [("shift", -1, -1, region_of_box(0, 0, 3, 2)),
                                           ("paint", 0, ((1, 2, ((3, 4),)), (2, 3, ((1, 4),))))])

    def test_panned_so_that_more_of_a_pane_is_seen(self):
        self.pane(-5, -5, 20, 20)
        watch = self.watch(0, 0, 6, 4)
        watch.viewer.pan(2, -1)
        right = region_of([(4, 0, 2, 4), (0, 0, 6, 1)])
        self.assertEqual(watch.refresh(), [("shift", -2, 1, region_of_box(0, 1, 4, 3)), ("paint", 1, right)])
        watch.viewer.pan(8, -1)
        self.assertEqual(watch.refresh(), [("paint", 1, region_of_box(0, 0, 6, 4))])

    def test_panned_by_as_much_as_the_board_is_wide(self):
        self.pane(-90, -90, 200, 200)
        watch = self.watch(0, 0, 3, 2)
        for x, y, kept in ((2, 0, 2), (4, 1, 1), (7, 1, 0), (7, 2, 3), (7, 4, 0), (5, 3, 1)):
            watch.viewer.pan(x, y)
            steps = watch.refresh()
            self.assertEqual(sum(len(cells_of(step[3])) for step in steps if step[0] == "shift"), kept, (x, y))

    def test_panned_along_with_a_pane(self):
        self.pane(1, 1, 3, 2)
        watch = self.watch(0, 0, 6, 4)
        watch.viewer.pan(5, -7)
        self.panes.move(1, 6, -6)
        self.assertIs(watch.viewer.is_stale(), False)
        self.assertEqual(watch.refresh(), [])

    def test_scrolled(self):
        self.pane(0, 0, 4, 2)
        watch = self.watch(0, 0, 5, 2)
        self.panes.scroll(1, 1, 0)
        self.assertEqual(watch.refresh(), [("shift", -1, 0, region_of_box(0, 0, 3, 2)),
                                           ("paint", 1, region_of_box(3, 0, 1, 2))])
        self.panes.scroll(1, 1, -1)
        self.assertEqual(watch.refresh(), [("shift", 0, 1, region_of_box(0, 1, 4, 1)),
                                           ("paint", 1, region_of_box(0, 0, 4, 1))])
        self.panes.scroll(1, FAR, FAR)
        self.assertEqual(watch.refresh(), [("paint", 1, region_of_box(0, 0, 4, 2))])

    def test_scrolled_and_moved_so_that_the_sheet_stands(self):
        self.pane(0, 0, 4, 2)
        watch = self.watch(0, 0, 6, 2)
        self.panes.scroll(1, 1, 0)
        self.panes.move(1, 1, 0)
        self.assertEqual(watch.refresh(), [("paint", 0, region_of_box(0, 0, 1, 2)),
                                           ("paint", 1, region_of_box(4, 0, 1, 2))])

    def test_one_that_lies_in_a_moved_one(self):
        self.pane(0, 0, 6, 3)
        self.pane(1, 1, 2, 1, 1, 1)
        watch = self.watch(0, 0, 9, 5)
        self.panes.move(1, 2, 1)
        self.assertEqual(watch.refresh()[0], ("shift", 2, 1, region_of_box(2, 1, 6, 3)))

    def test_put_into_another_parent(self):
        self.pane(1, 0, 2, 2)
        self.pane(4, 1, 4, 3, 0, 1)
        watch = self.watch(0, 0, 9, 5)
        self.panes.put_into(1, 2)
        steps = watch.refresh()
        self.assertEqual(steps[0], ("shift", 4, 1, region_of_box(5, 1, 2, 2)))
        self.panes.put_into(1, 0)
        self.panes.move(1, 5, 1)
        self.assertEqual(watch.refresh(), [])

    def test_only_what_was_seen_is_shifted(self):
        self.pane(0, 0, 4, 2)
        self.pane(2, 0, 9, 1, 0, 1)
        watch = self.watch(0, 0, 6, 4)
        self.panes.move(1, 0, 2)
        self.assertEqual(watch.refresh()[:1], [("shift", 0, 2, ((2, 3, ((0, 2),)), (3, 4, ((0, 4),))))])

    def test_only_what_is_seen_is_shifted(self):
        self.pane(0, 2, 4, 2)
        self.pane(2, 0, 9, 1, 0, 1)
        watch = self.watch(0, 0, 6, 4)
        self.panes.move(1, 0, 0)
        self.assertEqual(watch.refresh()[0], ("shift", 0, -2, ((0, 1, ((0, 2),)), (1, 2, ((0, 4),)))))

    def test_cut_off_by_the_board(self):
        self.pane(-2, -1, 5, 4)
        watch = self.watch(0, 0, 4, 4)
        self.panes.move(1, 1, 2)
        self.assertEqual(watch.refresh()[0], ("shift", 3, 3, region_of_box(3, 3, 1, 1)))

    def test_resized(self):
        self.pane(0, 0, 3, 2)
        watch = self.watch(0, 0, 6, 4)
        self.panes.resize(1, 5, 1)
        self.assertEqual(watch.refresh(), [("paint", 0, region_of_box(0, 1, 3, 1)),
                                           ("paint", 1, region_of_box(3, 0, 2, 1))])

    def test_moved_off_and_back_between_two_refreshings(self):
        self.pane(0, 0, 3, 2)
        watch = self.watch(0, 0, 6, 4)
        self.panes.move(1, 50, 50)
        self.panes.scroll(1, 3, 3)
        self.panes.hide(1)
        self.panes.show(1)
        self.panes.scroll(1, 0, 0)
        self.panes.move(1, 0, 0)
        self.assertEqual(watch.refresh(), [])

    def test_moved_off_at_a_refreshing_and_back(self):
        self.pane(0, 0, 3, 2)
        watch = self.watch(0, 0, 6, 4)
        self.panes.move(1, 50, 50)
        watch.refresh()
        self.panes.move(1, 0, 0)
        self.assertEqual(watch.refresh(), [("paint", 1, region_of_box(0, 0, 3, 2))])

    def test_far_moves_of_pane_and_start_that_meet(self):
        self.pane(FAR, 0, HUGE, 2)
        watch = self.watch(FAR, 0, 6, 2)
        self.panes.move(1, -FAR, 0)
        self.panes.scroll(1, -2 * FAR, 0)
        self.assertEqual(watch.viewer.refresh(), [])
        watch.viewer.pan(FAR + 1, 0)
        self.assertEqual(watch.viewer.refresh()[0], ("shift", -1, 0, region_of_box(0, 0, 5, 2)))


class Paints(ViewerTest):
    def test_by_rising_pane(self):
        for at in range(5):
            self.pane(at, 0, 1, 1)
        self.panes.sink(5)
        self.panes.lift(2)
        watch = self.watch(0, 0, 6, 1)
        for pane in (4, 2, 5):
            self.panes.turn(pane, 1)
        self.panes.let_go(3)
        self.assertEqual(watch.refresh(), [("paint", 0, region_of_box(2, 0, 1, 1)),
                                           ("paint", 2, region_of_box(1, 0, 1, 1)),
                                           ("paint", 4, region_of_box(3, 0, 1, 1)),
                                           ("paint", 5, region_of_box(4, 0, 1, 1))])

    def test_what_shows_no_pane_as_before_is_in_no_step(self):
        watch = self.watch(0, 0, 6, 4)
        watch.viewer.pan(1, 2)
        self.assertEqual(watch.refresh(), [])
        watch.viewer.pan(FAR, -FAR)
        self.assertEqual(watch.refresh(), [])

    def test_one_comes_from_under_another(self):
        self.pane(0, 0, 3, 2)
        self.pane(1, 0, 3, 1, 0, 1)
        watch = self.watch(0, 0, 5, 2)
        self.panes.lift(1)
        self.assertEqual(watch.refresh(), [("paint", 1, region_of_box(1, 0, 2, 1))])
        self.panes.put_over(2, 1)
        self.assertEqual(watch.refresh(), [("paint", 2, region_of_box(1, 0, 2, 1))])
        self.panes.sink(2)
        self.panes.lift(2)
        self.assertEqual(watch.refresh(), [])

    def test_hidden_and_shown(self):
        self.pane(0, 0, 3, 2)
        self.pane(1, 1, 3, 2, 1)
        watch = self.watch(0, 0, 5, 2)
        self.panes.hide(1)
        self.panes.show(1)
        self.assertEqual(watch.refresh(), [])
        self.panes.hide(1)
        self.assertEqual(watch.refresh(), [("paint", 0, region_of_box(0, 0, 3, 2))])
        self.panes.show(1)
        inner = region_of_box(1, 1, 2, 1)
        rest = without(region_of_box(0, 0, 3, 2), inner)
        self.assertEqual(watch.refresh(), [("paint", 1, rest), ("paint", 2, inner)])

    def test_let_go_and_another_opened_at_its_place(self):
        self.pane(0, 0, 3, 2)
        watch = self.watch(0, 0, 5, 2)
        self.panes.let_go(1)
        self.pane(0, 0, 3, 2)
        self.assertEqual(watch.refresh(), [("paint", 2, region_of_box(0, 0, 3, 2))])

    def test_another_pane_over_it_with_the_same_sheet_at_the_same_place(self):
        self.pane(0, 0, 3, 2)
        watch = self.watch(0, 0, 5, 2)
        self.pane(0, 0, 3, 2)
        self.assertEqual(watch.refresh(), [("paint", 2, region_of_box(0, 0, 3, 2))])
        self.panes.let_go(2)
        self.assertEqual(watch.refresh(), [("paint", 1, region_of_box(0, 0, 3, 2))])

    def test_two_panes_on_one_sheet_change_their_windows(self):
        self.pane(0, 0, 2, 1)
        self.pane(2, 0, 2, 1)
        self.panes.scroll(2, 2, 0)
        watch = self.watch(0, 0, 4, 1)
        # The board shows all these cells of the sheet, but each by the other pane.
        self.panes.scroll(1, 2, 0)
        self.panes.scroll(2, 0, 0)
        self.assertEqual(watch.refresh(), [("paint", 1, region_of_box(0, 0, 2, 1)),
                                           ("paint", 2, region_of_box(2, 0, 2, 1))])
        self.assertEqual(watch.viewer.board(), ["2301"])


class Sheet(ViewerTest):
    def test_written(self):
        self.pane(0, 0, 5, 2)
        watch = self.watch(0, 0, 6, 3)
        self.sheets.write(0, 1, 0, "xy")
        self.sheets.fill(0, 4, 1, 9, 9, "z")
        self.assertEqual(watch.refresh(), [("paint", 1, ((0, 1, ((1, 3),)), (1, 2, ((4, 5),))))])
        self.assertEqual(watch.viewer.board(), ["0xy34.", "abcdz.", "......"])

    def test_signs_that_stand_there_already(self):
        self.pane(0, 0, 5, 2)
        watch = self.watch(0, 0, 6, 3)
        self.sheets.write(0, 0, 0, "012")
        self.sheets.write(0, 4, 1, "e")
        self.assertIs(watch.viewer.is_stale(), True)
        self.assertEqual(watch.refresh(), [("paint", 1, ((0, 1, ((0, 3),)), (1, 2, ((4, 5),))))])

    def test_written_and_written_back(self):
        self.pane(0, 0, 5, 2)
        watch = self.watch(0, 0, 6, 3)
        self.sheets.write(0, 2, 0, "z")
        self.sheets.write(0, 2, 0, "2")
        self.assertEqual(watch.refresh(), [("paint", 1, region_of_box(2, 0, 1, 1))])

    def test_writings_that_the_board_does_not_show(self):
        self.pane(0, 0, 9, 4)
        self.pane(4, 0, 2, 1, 0, 1)
        watch = self.watch(1, 0, 5, 2)
        self.sheets.write(0, 0, 0, "z")
        self.sheets.write(0, 6, 0, "zz")
        self.sheets.write(0, 0, 2, "zzzzzzzz")
        self.sheets.write(0, 4, 0, "zz")
        self.sheets.write(1, 0, 1, "zzz")
        self.sheets.write(1, 2, 0, "z")
        self.sheets.write(0, 1, 0, "")
        self.sheets.write(0, 8, 0, "zzz")
        self.sheets.fill(0, 1, 0, 0, 2, "z")
        self.assertIs(watch.viewer.is_stale(), False)
        self.assertEqual(watch.refresh(), [])

    def test_cells_beyond_the_sheet_are_never_met(self):
        self.pane(0, 0, 6, 5, 0, 1)
        self.panes.scroll(1, -1, -1)
        watch = self.watch(0, 0, 6, 5)
        self.sheets.fill(1, -FAR, -FAR, 2 * FAR, 2 * FAR, "z")
        self.assertEqual(watch.refresh(), [("paint", 1, region_of_box(1, 1, 3, 3))])
        self.panes.scroll(1, 0, 0)
        self.sheets.fill(1, -9, -9, 20, 20, "y")
        self.assertEqual(watch.refresh(), [("shift", -1, -1, ((0, 3, ((3, 5),)), (3, 4, ((0, 5),)))),
                                           ("paint", 1, region_of([(0, 0, 3, 3), (5, 0, 1, 5), (0, 4, 6, 1)]))])

    def test_beyond_the_sheet_alone(self):
        self.pane(0, 0, 6, 5)
        self.panes.scroll(1, 900, -900)
        watch = self.watch(0, 0, 6, 5)
        self.sheets.fill(0, -FAR, -FAR, 2 * FAR, 2 * FAR, "z")
        self.assertEqual(watch.refresh(), [])
        self.panes.scroll(1, 901, -900)
        self.assertEqual(watch.refresh(), [("shift", -1, 0, region_of_box(0, 0, 5, 5)),
                                           ("paint", 1, region_of_box(5, 0, 1, 5))])

    def test_written_and_moved(self):
        self.pane(0, 0, 4, 2)
        watch = self.watch(0, 0, 6, 3)
        self.sheets.write(0, 1, 0, "x")
        self.panes.move(1, 1, 1)
        self.sheets.write(0, 2, 1, "y")
        steps = watch.refresh()
        self.assertEqual(steps[0], ("shift", 1, 1, ((1, 2, ((1, 2), (3, 5))), (2, 3, ((1, 3), (4, 5))))))
        self.assertEqual(steps[2], ("paint", 1, ((1, 2, ((2, 3),)), (2, 3, ((3, 4),)))))

    def test_all_written_and_moved(self):
        self.pane(0, 0, 4, 2)
        watch = self.watch(0, 0, 6, 3)
        self.panes.move(1, 1, 0)
        self.sheets.fill(0, 0, 0, 9, 9, "x")
        self.assertEqual(watch.refresh(), [("paint", 0, region_of_box(0, 0, 1, 2)),
                                           ("paint", 1, region_of_box(1, 0, 4, 2))])

    def test_written_while_it_was_not_seen(self):
        self.pane(0, 0, 4, 2)
        watch = self.watch(0, 0, 6, 3)
        self.panes.hide(1)
        self.sheets.write(0, 1, 0, "x")
        self.panes.show(1)
        self.assertEqual(watch.refresh(), [("paint", 1, region_of_box(1, 0, 1, 1))])

    def test_two_panes_on_one_sheet(self):
        self.pane(0, 0, 4, 1)
        self.pane(0, 1, 4, 1)
        self.panes.scroll(2, 1, 0)
        watch = self.watch(0, 0, 4, 2)
        self.sheets.write(0, 2, 0, "x")
        self.assertEqual(watch.refresh(), [("paint", 1, region_of_box(2, 0, 1, 1)),
                                           ("paint", 2, region_of_box(1, 1, 1, 1))])

    def test_turned(self):
        self.sheets.make(8, 4, "a")
        self.pane(0, 2, 4, 2)
        self.panes.scroll(1, 0, 2)
        watch = self.watch(0, 0, 4, 4)
        board = watch.viewer.board()
        self.panes.turn(1, 2)
        self.assertEqual(watch.refresh(), [("paint", 1, region_of_box(0, 2, 4, 2))])
        self.assertEqual(watch.viewer.board(), board)

    def test_turned_beyond_the_sheets(self):
        self.pane(0, 0, 4, 2)
        self.panes.scroll(1, 100, 0)
        watch = self.watch(0, 0, 4, 2)
        self.panes.turn(1, 1)
        self.assertEqual(watch.refresh(), [("paint", 1, region_of_box(0, 0, 4, 2))])

    def test_turned_and_back_between_two_refreshings(self):
        self.pane(0, 0, 4, 2)
        watch = self.watch(0, 0, 4, 2)
        self.panes.turn(1, 1)
        self.panes.turn(1, 0)
        self.assertEqual(watch.refresh(), [])
        self.panes.turn(1, 1)
        self.sheets.write(0, 0, 0, "x")
        self.sheets.write(1, 1, 0, "y")
        self.panes.turn(1, 0)
        self.assertEqual(watch.refresh(), [("paint", 1, region_of_box(0, 0, 1, 1))])

    def test_turned_at_a_refreshing_and_back(self):
        self.pane(0, 0, 4, 2)
        watch = self.watch(0, 0, 4, 2)
        self.panes.turn(1, 1)
        watch.refresh()
        self.panes.turn(1, 0)
        self.assertEqual(watch.refresh(), [("paint", 1, region_of_box(0, 0, 4, 2))])

    def test_turned_and_moved(self):
        self.pane(0, 0, 4, 2)
        watch = self.watch(0, 0, 6, 2)
        self.panes.turn(1, 1)
        self.panes.move(1, 1, 0)
        self.assertEqual([step[:2] for step in watch.refresh()], [("paint", 0), ("paint", 1)])

    def test_a_writing_ahead_of_the_last_refreshing_is_met_no_more(self):
        self.pane(0, 0, 4, 2)
        watch = self.watch(0, 0, 6, 2)
        self.sheets.write(0, 0, 0, "xy")
        watch.refresh()
        self.sheets.write(0, 3, 0, "z")
        self.assertEqual(watch.refresh(), [("paint", 1, region_of_box(3, 0, 1, 1))])
        self.panes.move(1, 1, 0)
        self.assertEqual(watch.refresh()[0], ("shift", 1, 0, region_of_box(1, 0, 4, 2)))


class Stale(ViewerTest):
    def test_ahead_of_and_behind_refreshings(self):
        viewer = Viewer(self.panes, 0, 0, 3, 3)
        self.assertIs(viewer.is_stale(), True)
        self.assertIs(viewer.is_stale(), True)
        viewer.refresh()
        self.assertIs(viewer.is_stale(), False)
        self.pane(1, 1, 1, 1)
        self.assertIs(viewer.is_stale(), True)
        self.panes.let_go(1)
        self.assertIs(viewer.is_stale(), False)
        self.assertEqual(viewer.refresh(), [])

    def test_a_shift_alone(self):
        self.pane(0, 0, 1, 1)
        viewer = Viewer(self.panes, 0, 0, 2, 1)
        self.pane(1, 0, 1, 1, 0, 1)
        viewer.refresh()
        self.panes.move(1, 1, 0)
        self.panes.move(2, 0, 0)
        self.assertIs(viewer.is_stale(), True)
        self.assertEqual([step[0] for step in viewer.refresh()], ["shift", "shift"])

    def test_asking_changes_nothing(self):
        self.pane(0, 0, 4, 2)
        asked, other = self.watch(0, 0, 6, 3), self.watch(0, 0, 6, 3)
        self.sheets.write(0, 1, 0, "x")
        self.panes.move(1, 1, 1)
        asked.viewer.pan(2, 0)
        other.viewer.pan(2, 0)
        for _ in range(3):
            self.assertIs(asked.viewer.is_stale(), True)
            asked.viewer.board()
            asked.viewer.window()
        self.assertEqual(asked.refresh(), other.refresh())

    def test_deeds_that_are_refused(self):
        self.pane(0, 0, 4, 2)
        watch = self.watch(0, 0, 6, 3)
        for error, deed, args in ((NoPane, self.panes.move, (2, 1, 1)), (NoSheet, self.panes.turn, (1, 2)),
                                  (NoSize, self.panes.resize, (1, 0, 1)), (NoSheet, self.sheets.write, (2, 0, 0, "x")),
                                  (NoSheet, self.sheets.fill, (-1, 0, 0, 9, 9, "x")), (NoSize, Viewer,
                                                                                   (self.panes, 0, 0, 61, 1))):
            self.assertRaises(error, deed, *args)
            self.assertIs(watch.viewer.is_stale(), False)
        self.assertEqual(watch.refresh(), [])


class Lists(ViewerTest):
    def test_told_lists_are_the_askers_own(self):
        self.pane(0, 0, 4, 2)
        watch = self.watch(0, 0, 6, 3)
        for _ in range(3):
            board = watch.viewer.board()
            self.assertIsNot(board, watch.viewer.board())
            told = watch.viewer.board()
            told[0] = "other"
            told.append("more")
            self.assertEqual(watch.viewer.board(), board)
            self.panes.move(1, self.panes.told(1)[2] + 1, 0)
            watch.refresh().clear()
            self.assertEqual(watch.viewer.board(), drawn(self.panes, 0, 0, 6, 3))
            self.assertEqual(watch.viewer.refresh(), [])

    def test_lists_told_by_a_new_viewer(self):
        viewer = Viewer(self.panes, 0, 0, 3, 2)
        viewer.board().clear()
        viewer.board()[0] = "other"
        self.assertEqual(viewer.board(), ["   ", "   "])
        viewer.refresh().append("more")
        viewer.refresh().append("more")
        self.assertEqual(viewer.refresh(), [])

    def test_nothing_done_later_changes_them(self):
        self.pane(0, 0, 4, 2)
        watch = self.watch(0, 0, 5, 2)
        self.panes.move(1, 1, 0)
        board, steps, window = watch.viewer.board(), watch.refresh(), watch.viewer.window()
        watch.viewer.pan(3, 3)
        self.panes.let_go(1)
        watch.refresh()
        self.assertEqual(board, ["0123.", "abcd."])
        self.assertEqual(steps, [("shift", 1, 0, region_of_box(1, 0, 4, 2)), ("paint", 0, region_of_box(0, 0, 1, 2))])
        self.assertEqual(window, (0, 0, 5, 2))

    def test_what_is_told_may_be_handed_in(self):
        self.pane(0, 0, 4, 2)
        watch = self.watch(-1, 0, 6, 3)
        same = Viewer(self.panes, *watch.viewer.window())
        same.refresh()
        self.assertEqual(same.board(), watch.viewer.board())
        self.assertEqual(drawn(self.panes, *same.window()), same.board())
        same.pan(*same.window()[:2])
        self.assertEqual(same.refresh(), [])


class Several(ViewerTest):
    def test_two_viewers_by_turns(self):
        self.pane(0, 0, 4, 2)
        one, other = self.watch(0, 0, 6, 3), self.watch(0, 0, 6, 3)
        self.panes.move(1, 1, 0)
        self.assertEqual(len(one.refresh()), 2)
        self.assertIs(other.viewer.is_stale(), True)
        self.assertEqual(other.viewer.board()[0], "0123..")
        self.panes.move(1, 2, 0)
        self.assertEqual(other.refresh()[0], ("shift", 2, 0, region_of_box(2, 0, 4, 2)))
        self.assertEqual(one.refresh()[0], ("shift", 1, 0, region_of_box(2, 0, 4, 2)))

    def test_writings_are_met_for_each_by_its_own_count(self):
        self.pane(0, 0, 4, 2)
        one, other = self.watch(0, 0, 6, 3), self.watch(0, 0, 6, 3)
        self.sheets.write(0, 0, 0, "x")
        one.refresh()
        self.sheets.write(0, 3, 1, "y")
        self.assertEqual(other.refresh(), [("paint", 1, ((0, 1, ((0, 1),)), (1, 2, ((3, 4),))))])
        self.assertEqual(one.refresh(), [("paint", 1, ((1, 2, ((3, 4),)),))])

    def test_panning_one_leaves_the_other(self):
        self.pane(0, 0, 4, 2)
        one, other = self.watch(0, 0, 6, 3), self.watch(2, 1, 3, 3)
        one.viewer.pan(7, 7)
        self.assertEqual(other.viewer.window(), (2, 1, 3, 3))
        self.assertIs(other.viewer.is_stale(), False)
        one.refresh()
        self.assertEqual(other.refresh(), [])

    def test_two_planes_over_the_same_sheets(self):
        far = Panes(self.sheets)
        self.pane(0, 0, 4, 2)
        far.open_pane(0, 0, 1, 0, 3, 1)
        one, other = self.watch(0, 0, 6, 3), self.watch(0, 0, 6, 3, far)
        self.panes.let_go(1)
        self.assertIs(other.viewer.is_stale(), False)
        self.pane(0, 0, 4, 1)
        one.refresh()
        self.sheets.write(0, 2, 0, "x")
        self.assertEqual(one.refresh(), [("paint", 2, region_of_box(2, 0, 1, 1))])
        self.assertEqual(other.refresh(), [("paint", 1, region_of_box(3, 0, 1, 1))])

    def test_a_viewer_of_one_cell(self):
        self.pane(0, 0, 4, 2)
        watch = self.watch(0, 0, 1, 1)
        self.panes.move(1, -1, 0)
        self.assertEqual(watch.refresh(), [("paint", 1, region_of_box(0, 0, 1, 1))])
        self.panes.move(1, 1, 1)
        self.assertEqual(watch.refresh(), [("paint", 0, region_of_box(0, 0, 1, 1))])


class Great(ViewerTest):
    def test_deep(self):
        pane = 0
        for _ in range(DEEP):
            pane = self.pane(1, 0, DEEP, 3, pane)
        watch = self.watch(DEEP - 8, 0, 12, 3)
        self.panes.move(DEEP - 3, 1, 1)
        self.assertEqual(watch.refresh()[0], ("shift", 0, 1, region_of_box(5, 1, 4, 2)))
        watch.viewer.pan(DEEP - 9, 0)
        self.sheets.write(0, 0, 0, "x")
        watch.refresh()
        self.panes.hide(1)
        self.assertEqual(watch.refresh(), [("paint", 0, region_of_box(0, 0, 10, 3))])

    def test_deep_and_all_over_one_another(self):
        pane = 0
        for _ in range(DEEP):
            pane = self.pane(0, 0, 5, 3, pane)
        watch = self.watch(0, 0, 6, 4)
        self.panes.move(1, 1, 1)
        self.assertEqual(watch.refresh()[0], ("shift", 1, 1, region_of_box(1, 1, 5, 3)))
        self.panes.let_go(DEEP // 2)
        self.assertEqual(watch.refresh(), [("paint", DEEP // 2 - 1, region_of_box(1, 1, 5, 3))])

    def test_a_great_board_of_many_panes(self):
        for y in range(0, 60, 4):
            for x in range(0, 60, 4):
                self.pane(x, y, 3, 3, 0, x // 4 & 1)
        watch = self.watch(0, 0, 60, 60)
        for pane in self.panes.all_panes():
            self.panes.scroll(pane, pane & 1, 0)
        self.sheets.write(0, 1, 0, "xy")
        watch.viewer.pan(1, 1)
        watch.refresh()


class ManyDeeds(ViewerTest):
    """Long rows of deeds of every kind, with refreshings at any times."""

    def some_watch(self, chance, panes):
        return Watch(self, panes, chance.randint(-4, 4), chance.randint(-3, 3), chance.choice([1, 9, 12, 15]),
                     chance.choice([1, 6, 8, 10]))

    def row_of_deeds(self, chance, planes, told):
        watches = [self.some_watch(chance, panes) for panes in planes for _ in range(2)]
        for _ in range(60):
            for _ in range(chance.choice([0, 1, 1, 2, 3, 8])):
                some_deed(chance, chance.choice(planes))
            watch = chance.choice(watches)
            if chance.random() < 0.3:
                watch.viewer.pan(chance.randint(-5, 6), chance.randint(-4, 5))
            if chance.random() < 0.03:
                watch.viewer.pan(chance.choice([FAR, -FAR]), 0)
            if chance.random() < 0.8:
                steps = watch.refresh()
                told["none"] += not steps
                told["shift"] += any(step[0] == "shift" for step in steps)
                told["shifts"] += sum(step[0] == "shift" for step in steps) > 1
                told["paint"] += any(step[0] == "paint" and step[1] > 0 for step in steps)
                told["bare"] += any(step[:2] == ("paint", 0) for step in steps)

    def test_one_plane(self):
        told = Counter()
        for number in range(60):
            chance = random.Random(number)
            self.setUp()
            self.row_of_deeds(chance, [self.panes], told)
        for kind, least in (("none", 400), ("shift", 200), ("shifts", 15), ("paint", 400), ("bare", 400)):
            self.assertGreater(told[kind], least, kind)

    def test_two_planes_over_the_same_sheets(self):
        told = Counter()
        for number in range(30):
            chance = random.Random(100 + number)
            self.setUp()
            self.row_of_deeds(chance, [self.panes, Panes(self.sheets)], told)
        self.assertGreater(told["shift"], 20)


if __name__ == "__main__":
    unittest.main()
