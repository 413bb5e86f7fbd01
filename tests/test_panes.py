"""[11], [12], [13] and [14]: panes, the deeds at them, their refusals, and what is told of them."""

import inspect
import random
import unittest
from collections import Counter

from cells import FAR, HUGE, is_plain
from panelook.errors import LookError, NoBrother, NoPane, NoParent, NoSheet, NoSize
from panelook.panes import Panes
from panelook.sheets import Sheets

ARGUMENTS = {"open_pane": ["parent", "sheet", "x", "y", "w", "h"], "move": ["pane", "x", "y"],
             "resize": ["pane", "w", "h"], "scroll": ["pane", "sx", "sy"], "turn": ["pane", "sheet"],
             "lift": ["pane"], "sink": ["pane"], "put_over": ["pane", "brother"], "put_into": ["pane", "parent"],
             "hide": ["pane"], "show": ["pane"], "let_go": ["pane"], "told": ["pane"], "inside": ["parent"],
             "all_panes": [], "following": [], "sheets_kept": []}

DEEP = 2500  # beyond what Python's own calls may be nested
BELOW = (0, -1, -2, -FAR)


def state(panes):
    """All that is told of the panes."""
    numbers = panes.all_panes()
    return (panes.following(), numbers, {pane: panes.told(pane) for pane in numbers},
            {parent: panes.inside(parent) for parent in [0] + numbers})


class Model:
    """Panes held apart from the program: the order in a parent is that of their heights, the rest is in a dict."""

    def __init__(self):
        self.panes = {}
        self.heights = {}
        self.next = 1

    def brothers(self, parent):
        return sorted((pane for pane in self.panes if self.panes[pane][0] == parent), key=self.heights.get)

    def change(self, pane, at, *values):
        row = list(self.panes[pane])
        row[at:at + len(values)] = values
        self.panes[pane] = tuple(row)

    def open_pane(self, parent, sheet, x, y, w, h):
        self.panes[self.next] = (parent, sheet, x, y, w, h, 0, 0, False)
        self.lift(self.next)
        self.next += 1
        return self.next - 1

    def move(self, pane, x, y):
        self.change(pane, 2, x, y)

    def resize(self, pane, w, h):
        self.change(pane, 4, w, h)

    def scroll(self, pane, sx, sy):
        self.change(pane, 6, sx, sy)

    def turn(self, pane, sheet):
        self.change(pane, 1, sheet)

    def hide(self, pane):
        self.change(pane, 8, True)

    def show(self, pane):
        self.change(pane, 8, False)

    def lift(self, pane):
        self.heights[pane] = max(self.heights.values(), default=0) + 1

    def sink(self, pane):
        self.heights[pane] = min(self.heights.values(), default=0) - 1

    def put_over(self, pane, brother):
        over = [other for other in self.brothers(self.panes[pane][0])
                if self.heights[other] > self.heights[brother] and other != pane]
        for other in [pane] + over:
            self.lift(other)

    def put_into(self, pane, parent):
        self.change(pane, 0, parent)
        self.lift(pane)

    def let_go(self, pane):
        for inner in self.brothers(pane):
            self.let_go(inner)
        del self.panes[pane], self.heights[pane]

    def refusal(self, name, args, sheets):
        """The class of the refusal that is due, as [13] tells, None where none is."""
        known = list(self.panes)
        if name == "open_pane":
            return self.refused_open(known, args, sheets)
        if args[0] not in known:
            return NoPane
        if name == "put_over":
            return self.refused_over(known, *args)
        if name == "put_into":
            return self.refused_into(known, *args)
        if name == "turn" and args[1] not in range(sheets):
            return NoSheet
        if name == "resize" and min(args[1:]) < 1:
            return NoSize
        return None

    def refused_open(self, known, args, sheets):
        if args[0] not in [0] + known:
            return NoPane
        if args[1] not in range(sheets):
            return NoSheet
        return NoSize if min(args[4:]) < 1 else None

    def refused_over(self, known, pane, brother):
        if brother not in known:
            return NoPane
        return NoBrother if pane == brother or self.panes[pane][0] != self.panes[brother][0] else None

    def refused_into(self, known, pane, parent):
        if parent not in [0] + known:
            return NoPane
        while parent not in (0, pane):
            parent = self.panes[parent][0]
        return NoParent if parent == pane else None

    def state(self):
        return (self.next, sorted(self.panes), dict(self.panes),
                {parent: self.brothers(parent) for parent in [0] + sorted(self.panes)})


class PanesTest(unittest.TestCase):
    def setUp(self):
        self.sheets = Sheets()
        self.sheets.make(10, 5, "a")
        self.sheets.make(3, 3, "b")
        self.panes = Panes(self.sheets)

    def some(self, many=3, parent=0):
        """Opens so many panes in the parent, and tells their numbers."""
        return [self.panes.open_pane(parent, 0, at, 2 * at, at + 1, at + 2) for at in range(many)]

    def nest(self, depth):
        """Opens panes within one another, so many deep, and tells their numbers, the outermost first."""
        numbers = [0]
        for at in range(depth):
            numbers.append(self.panes.open_pane(numbers[-1], 0, 1, 0, 4, 4))
        return numbers[1:]

    def refuse(self, error, name, *args):
        """Holds that the deed or question is refused with just this class, and that nothing is changed."""
        before = state(self.panes)
        with self.assertRaises(LookError) as caught:
            getattr(self.panes, name)(*args)
        self.assertIs(type(caught.exception), error, name)
        self.assertEqual(state(self.panes), before, name)

    def changed(self, pane, deed, at, *values):
        """Holds that a deed at a pane tells None and changes just these values of what is told of it."""
        following, numbers, rows, orders = state(self.panes)
        row = list(rows[pane])
        row[at:at + len(values)] = values
        self.assertIsNone(deed())
        self.assertEqual(state(self.panes), (following, numbers, {**rows, pane: tuple(row)}, orders))


class Interface(PanesTest):
    def test_each_method_stands_in_the_class_itself(self):
        for name, arguments in ARGUMENTS.items():
            self.assertIn(name, vars(Panes))
            self.assertEqual(list(inspect.signature(getattr(self.panes, name)).parameters), arguments, name)
        self.assertEqual(list(inspect.signature(Panes).parameters), ["sheets"])

    def test_kinds(self):
        self.assertIs(type(self.panes.open_pane(0, 0, 0, 0, 1, 1)), int)
        told = self.panes.told(1)
        self.assertIs(type(told), tuple)
        self.assertTrue(is_plain(told[:8]))
        self.assertIs(told[8], False)
        self.panes.hide(1)
        self.assertIs(self.panes.told(1)[8], True)
        for told in (self.panes.inside(0), self.panes.inside(1), self.panes.all_panes()):
            self.assertIs(type(told), list)
            self.assertTrue(is_plain(tuple(told)))
        self.assertIs(type(self.panes.following()), int)

    def test_the_sheets_are_kept(self):
        self.assertIs(self.panes.sheets_kept(), self.sheets)
        self.some()
        self.assertIs(self.panes.sheets_kept(), self.sheets)


class Open(PanesTest):
    def test_no_pane_at_first(self):
        self.assertEqual(state(self.panes), (1, [], {}, {0: []}))

    def test_numbers_from_1_on(self):
        self.assertEqual(self.some(4), [1, 2, 3, 4])
        self.assertEqual(self.panes.following(), 5)
        self.assertEqual(self.panes.all_panes(), [1, 2, 3, 4])

    def test_what_is_told_of_a_new_one(self):
        self.panes.open_pane(0, 1, -4, 7, 20, 30)
        self.panes.open_pane(1, 0, 5, -6, 1, 2)
        self.assertEqual(self.panes.told(1), (0, 1, -4, 7, 20, 30, 0, 0, False))
        self.assertEqual(self.panes.told(2), (1, 0, 5, -6, 1, 2, 0, 0, False))

    def test_over_all_others_in_the_parent(self):
        self.some(2)
        self.some(3, 1)
        self.some(1, 4)
        self.panes.open_pane(0, 0, 0, 0, 1, 1)
        self.panes.open_pane(1, 0, 0, 0, 1, 1)
        self.assertEqual([self.panes.inside(parent) for parent in (0, 1, 2, 3, 4)],
                         [[1, 2, 7], [3, 4, 5, 8], [], [], [6]])
        self.panes.sink(7)
        self.assertEqual(self.panes.open_pane(0, 0, 0, 0, 1, 1), 9)
        self.assertEqual(self.panes.inside(0), [7, 1, 2, 9])

    def test_great_numbers(self):
        self.panes.open_pane(0, 0, FAR, -FAR, FAR, FAR)
        self.assertEqual(self.panes.told(1), (0, 0, FAR, -FAR, FAR, FAR, 0, 0, False))

    def test_in_a_hidden_one_it_is_shown_by_its_own_mark(self):
        self.some(1)
        self.panes.hide(1)
        self.panes.open_pane(1, 0, 0, 0, 1, 1)
        self.assertIs(self.panes.told(2)[8], False)

    def test_refused(self):
        self.some(2)
        for parent in (3, -1, -2, FAR, -FAR, HUGE, -HUGE):
            self.refuse(NoPane, "open_pane", parent, 0, 0, 0, 1, 1)
        for sheet in (2, -1, -2, FAR, -FAR, HUGE):
            self.refuse(NoSheet, "open_pane", 0, sheet, 0, 0, 1, 1)
            self.refuse(NoSheet, "open_pane", 2, sheet, 0, 0, 1, 1)
        for below in BELOW:
            for parent in (0, 1):
                self.refuse(NoSize, "open_pane", parent, 0, 0, 0, below, 1)
                self.refuse(NoSize, "open_pane", parent, 0, 0, 0, 1, below)
                self.refuse(NoSize, "open_pane", parent, 0, 0, 0, below, below)
        self.assertEqual(self.panes.open_pane(0, 0, 0, 0, 1, 1), 3)

    def test_several_refusals_at_once(self):
        self.refuse(NoPane, "open_pane", 1, 2, 0, 0, 0, 0)
        self.refuse(NoPane, "open_pane", 1, 2, 0, 0, 1, 1)
        self.refuse(NoPane, "open_pane", 1, 0, 0, 0, 0, 0)
        self.refuse(NoSheet, "open_pane", 0, 2, 0, 0, 0, 0)
        self.refuse(NoSheet, "open_pane", 0, -1, 0, 0, 1, -1)

    def test_there_is_no_sheet_at_all(self):
        self.panes = Panes(Sheets())
        self.refuse(NoSheet, "open_pane", 0, 0, 0, 0, 1, 1)


class OnePane(PanesTest):
    """Deeds that change what is told of one pane alone."""

    def setUp(self):
        super().setUp()
        self.some(3)
        self.some(2, 2)
        self.some(2, 4)

    def test_move(self):
        for pane in self.panes.all_panes():
            for x, y in ((0, 0), (-3, 8), (FAR, -FAR), (7, 7), (7, 7)):
                self.changed(pane, lambda: self.panes.move(pane, x, y), 2, x, y)

    def test_resize(self):
        for pane in self.panes.all_panes():
            for w, h in ((1, 1), (1, 61), (200, 1), (FAR, FAR), (3, 4), (3, 4)):
                self.changed(pane, lambda: self.panes.resize(pane, w, h), 4, w, h)
            for below in BELOW:
                self.refuse(NoSize, "resize", pane, below, 5)
                self.refuse(NoSize, "resize", pane, 5, below)
                self.refuse(NoSize, "resize", pane, below, below)

    def test_scroll(self):
        for pane in self.panes.all_panes():
            for sx, sy in ((5, 6), (-1, -2), (FAR, -FAR), (-FAR, FAR), (0, 0), (0, 0)):
                self.changed(pane, lambda: self.panes.scroll(pane, sx, sy), 6, sx, sy)

    def test_turn(self):
        for pane in self.panes.all_panes():
            self.panes.scroll(pane, 3, -4)
            for sheet in (1, 0, 0, 1):
                self.changed(pane, lambda: self.panes.turn(pane, sheet), 1, sheet)
            for sheet in (2, -1, -2, FAR, -FAR):
                self.refuse(NoSheet, "turn", pane, sheet)

    def test_hide_and_show_twice(self):
        for pane in self.panes.all_panes():
            self.changed(pane, lambda: self.panes.show(pane), 8, False)
            self.changed(pane, lambda: self.panes.hide(pane), 8, True)
            self.changed(pane, lambda: self.panes.hide(pane), 8, True)
            self.changed(pane, lambda: self.panes.show(pane), 8, False)
            self.changed(pane, lambda: self.panes.show(pane), 8, False)

    def test_its_own_mark_alone(self):
        self.panes.hide(2)
        self.assertEqual([self.panes.told(pane)[8] for pane in (2, 4, 6)], [True, False, False])
        self.panes.hide(6)
        self.panes.show(2)
        self.assertEqual([self.panes.told(pane)[8] for pane in (2, 4, 6)], [False, False, True])

    def test_no_pane_goes_first(self):
        for pane in (0, 8, -1, FAR):
            self.refuse(NoPane, "turn", pane, 2)
            self.refuse(NoPane, "turn", pane, -1)
            self.refuse(NoPane, "resize", pane, 0, 0)
            self.refuse(NoPane, "resize", pane, 3, -1)


class Order(PanesTest):
    def moved_in_order(self, deed, parent, order):
        """Holds that a deed tells None and changes the order in this parent alone."""
        following, numbers, rows, orders = state(self.panes)
        self.assertIsNone(deed())
        self.assertEqual(state(self.panes), (following, numbers, rows, {**orders, parent: order}))

    def test_lift(self):
        for parent in (0, 2):
            low, mid, high = self.some(3, parent)
            self.moved_in_order(lambda: self.panes.lift(low), parent, [mid, high, low])
            self.moved_in_order(lambda: self.panes.lift(high), parent, [mid, low, high])
            self.moved_in_order(lambda: self.panes.lift(high), parent, [mid, low, high])

    def test_sink(self):
        for parent in (0, 2):
            low, mid, high = self.some(3, parent)
            self.moved_in_order(lambda: self.panes.sink(high), parent, [high, low, mid])
            self.moved_in_order(lambda: self.panes.sink(low), parent, [low, high, mid])
            self.moved_in_order(lambda: self.panes.sink(low), parent, [low, high, mid])

    def test_put_over_a_brother_from_below_and_from_above(self):
        for parent in (0, 2):
            a, b, c, d = self.some(4, parent)
            self.moved_in_order(lambda: self.panes.put_over(a, c), parent, [b, c, a, d])
            self.moved_in_order(lambda: self.panes.put_over(d, b), parent, [b, d, c, a])
            self.moved_in_order(lambda: self.panes.put_over(b, a), parent, [d, c, a, b])
            self.moved_in_order(lambda: self.panes.put_over(b, d), parent, [d, b, c, a])
            self.moved_in_order(lambda: self.panes.put_over(b, d), parent, [d, b, c, a])
            self.moved_in_order(lambda: self.panes.put_over(d, b), parent, [b, d, c, a])

    def test_every_two_of_four(self):
        numbers = self.some(4)
        for pane in numbers:
            for brother in numbers:
                if pane != brother:
                    order = [other for other in self.panes.inside(0) if other != pane]
                    order.insert(order.index(brother) + 1, pane)
                    self.moved_in_order(lambda: self.panes.put_over(pane, brother), 0, order)

    def test_alone_in_its_parent(self):
        self.some(1)
        self.some(1, 1)
        for pane, parent in ((1, 0), (2, 1)):
            self.moved_in_order(lambda: self.panes.lift(pane), parent, [pane])
            self.moved_in_order(lambda: self.panes.sink(pane), parent, [pane])

    def test_no_brother(self):
        self.some(2)
        self.some(2, 1)
        self.some(1, 3)
        for pane, brother in ((1, 1), (3, 3), (5, 5), (1, 3), (3, 1), (2, 4), (3, 5), (5, 1), (5, 4)):
            self.refuse(NoBrother, "put_over", pane, brother)

    def test_no_pane_ahead_of_no_brother(self):
        self.some(2)
        self.some(1, 1)
        for number in (0, 4, -1, -2, FAR, -FAR, HUGE):
            self.refuse(NoPane, "put_over", number, 1)
            self.refuse(NoPane, "put_over", 1, number)
            self.refuse(NoPane, "put_over", 3, number)
            self.refuse(NoPane, "put_over", number, number)

    def test_one_that_was_put_into_another_parent_is_a_brother_there_alone(self):
        self.some(4)
        self.panes.put_into(1, 3)
        self.panes.put_into(2, 3)
        self.refuse(NoBrother, "put_over", 1, 4)
        self.refuse(NoBrother, "put_over", 1, 3)
        self.moved_in_order(lambda: self.panes.put_over(1, 2), 3, [2, 1])


class PutInto(PanesTest):
    def put(self, pane, parent):
        """Holds that the deed tells None, and changes the parent and the two orders alone."""
        following, numbers, rows, orders = state(self.panes)
        row = (parent, *rows[pane][1:])
        orders = {number: [other for other in order if other != pane] for number, order in orders.items()}
        orders[parent] = orders[parent] + [pane]
        self.assertIsNone(self.panes.put_into(pane, parent))
        self.assertEqual(state(self.panes), (following, numbers, {**rows, pane: row}, orders))

    def test_into_another_parent_and_back(self):
        self.some(3)
        self.some(2, 3)
        for pane, parent in ((1, 3), (1, 0), (1, 2), (4, 1), (3, 4), (3, 0), (2, 0), (4, 0), (5, 0)):
            self.put(pane, parent)

    def test_at_the_same_place_with_all_else_as_it_was(self):
        self.some(2)
        self.panes.move(1, -7, FAR)
        self.panes.resize(1, 9, 8)
        self.panes.scroll(1, 3, -4)
        self.panes.turn(1, 1)
        self.panes.hide(1)
        self.put(1, 2)
        self.assertEqual(self.panes.told(1), (2, 1, -7, FAR, 9, 8, 3, -4, True))

    def test_into_the_one_in_which_it_lies(self):
        self.some(3)
        self.some(3, 2)
        self.put(1, 0)
        self.assertEqual(self.panes.inside(0), [2, 3, 1])
        self.put(1, 0)
        self.assertEqual(self.panes.inside(0), [2, 3, 1])
        self.put(5, 2)
        self.assertEqual(self.panes.inside(2), [4, 6, 5])

    def test_what_lies_in_it_goes_along(self):
        self.some(2)
        self.some(2, 1)
        self.some(1, 3)
        self.put(1, 2)
        self.assertEqual([self.panes.inside(parent) for parent in (0, 2, 1, 3)], [[2], [1], [3, 4], [5]])

    def test_into_itself_and_into_what_lies_within_it(self):
        self.nest(5)
        for pane in range(1, 6):
            for parent in range(1, 6):
                if parent >= pane:
                    self.refuse(NoParent, "put_into", pane, parent)
        for pane in range(1, 6):
            self.put(pane, pane - 1)

    def test_no_pane_goes_first(self):
        self.nest(3)
        for number in (4, -1, -2, FAR, -FAR, HUGE):
            self.refuse(NoPane, "put_into", number, number)
            self.refuse(NoPane, "put_into", number, 0)
            self.refuse(NoPane, "put_into", 1, number)
        self.refuse(NoPane, "put_into", 0, 0)
        self.refuse(NoPane, "put_into", 0, 1)

    def test_a_refusal_lasts_no_longer_than_its_cause(self):
        self.nest(3)
        self.refuse(NoParent, "put_into", 1, 3)
        self.put(3, 0)
        self.put(1, 3)
        self.refuse(NoParent, "put_into", 3, 2)


class LetGo(PanesTest):
    def test_one_alone(self):
        self.some(3)
        self.assertIsNone(self.panes.let_go(2))
        self.assertEqual(self.panes.all_panes(), [1, 3])
        self.assertEqual(self.panes.inside(0), [1, 3])
        self.refuse(NoPane, "told", 2)
        self.refuse(NoPane, "let_go", 2)

    def test_with_all_that_lies_in_it(self):
        self.some(3)
        self.some(2, 2)
        self.some(2, 4)
        self.some(1, 3)
        self.panes.let_go(2)
        self.assertEqual(self.panes.all_panes(), [1, 3, 8])
        self.assertEqual([self.panes.inside(parent) for parent in (0, 1, 3, 8)], [[1, 3], [], [8], []])
        for pane in (2, 4, 5, 6, 7):
            self.refuse(NoPane, "told", pane)
            self.refuse(NoPane, "inside", pane)

    def test_no_number_comes_again(self):
        self.some(3)
        self.panes.let_go(3)
        self.assertEqual(self.panes.following(), 4)
        self.assertEqual(self.some(1), [4])
        for pane in (1, 2, 4):
            self.panes.let_go(pane)
        self.assertEqual(state(self.panes), (5, [], {}, {0: []}))
        self.assertEqual(self.some(2), [5, 6])
        self.assertEqual(self.panes.all_panes(), [5, 6])

    def test_one_that_was_put_elsewhere_stays(self):
        self.nest(4)
        self.panes.put_into(3, 0)
        self.panes.let_go(1)
        self.assertEqual(self.panes.all_panes(), [3, 4])
        self.assertEqual(self.panes.told(4)[0], 3)

    def test_all_panes_rise_whatever_their_order(self):
        self.some(4)
        self.panes.lift(1)
        self.panes.put_into(4, 2)
        self.panes.let_go(3)
        self.some(1)
        self.assertEqual(self.panes.all_panes(), [1, 2, 4, 5])
        self.assertEqual(self.panes.inside(0), [2, 1, 5])


class NoPaneThere(PanesTest):
    def test_each_deed_and_question(self):
        self.some(3)
        self.panes.let_go(2)
        deeds = {"move": (0, 0), "resize": (1, 1), "scroll": (0, 0), "turn": (0,), "lift": (), "sink": (),
                 "put_over": (1,), "put_into": (0,), "hide": (), "show": (), "let_go": (), "told": ()}
        for name, args in deeds.items():
            for pane in (0, 2, 4, -1, -3, FAR, -FAR, HUGE, -HUGE):
                self.refuse(NoPane, name, pane, *args)

    def test_where_a_parent_is_asked(self):
        self.some(3)
        self.panes.let_go(2)
        for parent in (2, 4, -1, -3, FAR, -FAR, HUGE, -HUGE):
            self.refuse(NoPane, "inside", parent)
            self.refuse(NoPane, "put_into", 1, parent)
            self.refuse(NoPane, "open_pane", parent, 0, 0, 0, 1, 1)
        self.assertEqual(self.panes.inside(0), [1, 3])


class Deep(PanesTest):
    def test_a_nest_beyond_a_thousand(self):
        numbers = self.nest(DEEP)
        self.assertEqual(numbers, list(range(1, DEEP + 1)))
        self.assertEqual(self.panes.all_panes(), numbers)
        self.assertEqual(self.panes.inside(DEEP - 1), [DEEP])
        self.assertEqual(self.panes.told(DEEP), (DEEP - 1, 0, 1, 0, 4, 4, 0, 0, False))

    def test_deeds_deep_below(self):
        self.nest(DEEP)
        for deed in (self.panes.lift, self.panes.sink, self.panes.hide):
            deed(DEEP)
            deed(1)
        self.panes.move(DEEP, 5, 6)
        self.assertEqual(self.panes.told(DEEP), (DEEP - 1, 0, 5, 6, 4, 4, 0, 0, True))

    def test_put_into_deep_below(self):
        self.nest(DEEP)
        for pane, parent in ((1, DEEP), (1, DEEP - 1), (2, DEEP), (DEEP - 1, DEEP), (DEEP, DEEP)):
            self.refuse(NoParent, "put_into", pane, parent)
        other = self.some(1)[0]
        self.panes.put_into(other, DEEP)
        self.assertEqual(self.panes.told(other)[0], DEEP)
        self.refuse(NoParent, "put_into", 1, other)
        self.panes.put_into(DEEP // 2, 0)
        self.panes.put_into(1, other)
        self.refuse(NoParent, "put_into", DEEP // 2, DEEP // 2 - 1)

    def test_let_go_of_the_outermost(self):
        self.some(1)
        self.nest(DEEP)
        self.panes.let_go(2)
        self.assertEqual(state(self.panes), (DEEP + 2, [1], {1: (0, 0, 0, 0, 1, 2, 0, 0, False)}, {0: [1], 1: []}))

    def test_let_go_of_the_innermost(self):
        self.nest(DEEP)
        self.panes.let_go(DEEP)
        self.assertEqual(self.panes.all_panes(), list(range(1, DEEP)))
        self.assertEqual(self.panes.inside(DEEP - 1), [])


class Lists(PanesTest):
    def test_told_lists_are_the_askers_own(self):
        self.some(3)
        self.some(2, 1)
        before = state(self.panes)
        for ask in (lambda: self.panes.inside(0), lambda: self.panes.inside(1), lambda: self.panes.inside(2),
                    self.panes.all_panes):
            kept = ask()
            told = ask()
            self.assertIsNot(kept, told)
            told.append(99)
            told[0] = 77
            told.reverse()
            self.assertEqual(state(self.panes), before)
            self.assertEqual(ask(), kept)

    def test_nothing_done_later_changes_them(self):
        self.some(3)
        below, numbers = self.panes.inside(0), self.panes.all_panes()
        self.panes.lift(1)
        self.panes.let_go(2)
        self.some(1)
        self.assertEqual((below, numbers), ([1, 2, 3], [1, 2, 3]))

    def test_what_is_told_may_be_handed_in(self):
        self.some(2)
        parent, sheet, x, y, w, h, sx, sy, hidden = self.panes.told(2)
        self.assertEqual(self.panes.open_pane(parent, sheet, x, y, w, h), 3)
        self.assertEqual(self.panes.told(3), self.panes.told(2))
        self.panes.move(3, HUGE, -HUGE)
        self.panes.resize(3, HUGE, HUGE)
        self.panes.scroll(3, -HUGE, HUGE)
        self.assertTrue(self.panes.told(3) == (0, 0, HUGE, -HUGE, HUGE, HUGE, -HUGE, HUGE, False))


class SheetsKept(PanesTest):
    def test_what_is_made_later_counts(self):
        self.refuse(NoSheet, "open_pane", 0, 2, 0, 0, 1, 1)
        self.some(1)
        self.refuse(NoSheet, "turn", 1, 2)
        self.assertEqual(self.sheets.make(1, 1, "c"), 2)
        self.panes.turn(1, 2)
        self.panes.open_pane(0, 2, 0, 0, 1, 1)
        self.assertEqual([self.panes.told(pane)[1] for pane in (1, 2)], [2, 2])

    def test_what_is_written_later_counts(self):
        self.sheets.write(1, 0, 0, "xyz")
        self.assertEqual(self.panes.sheets_kept().rows_of(1), ["xyz", "bbb", "bbb"])

    def test_deeds_at_panes_are_none_at_sheets(self):
        before = (self.sheets.how_many(), self.sheets.written(), self.sheets.rows_of(0), self.sheets.rows_of(1))
        self.some(3)
        self.panes.turn(1, 1)
        self.panes.scroll(2, 5, 5)
        self.panes.let_go(3)
        after = (self.sheets.how_many(), self.sheets.written(), self.sheets.rows_of(0), self.sheets.rows_of(1))
        self.assertEqual(after, before)

    def test_two_planes_over_the_same_sheets(self):
        other = Panes(self.sheets)
        self.some(3)
        self.assertEqual(state(other), (1, [], {}, {0: []}))
        self.assertEqual(other.open_pane(0, 1, 8, 8, 8, 8), 1)
        self.panes.let_go(1)
        self.assertEqual(other.told(1), (0, 1, 8, 8, 8, 8, 0, 0, False))
        self.assertEqual(other.following(), 2)
        self.assertIs(other.sheets_kept(), self.panes.sheets_kept())
        self.assertEqual(self.sheets.make(1, 1, "c"), 2)
        self.panes.turn(2, 2)
        other.turn(1, 2)


class ManyDeeds(PanesTest):
    NAMES = ["open_pane"] * 4 + ["put_over", "put_into"] * 3 + list(ARGUMENTS)[1:11] + ["let_go"]

    def args(self, chance, name, panes):
        """Arguments of the deed, a few of them wrong."""
        numbers = panes.all_panes() * 4 + [0, -1, panes.following(), FAR] + [chance.randint(0, panes.following())]
        some = {"pane": numbers, "parent": [0] * 5 + numbers, "brother": numbers, "sheet": [0, 1] * 8 + [-1, 2],
                "x": range(-5, 6), "y": range(-5, 6), "w": range(0, 15), "h": range(0, 15),
                "sx": range(-5, 6), "sy": range(-5, 6)}
        args = [chance.choice(some[kind]) for kind in ARGUMENTS[name]]
        if name == "put_over" and args[0] in panes.all_panes() and chance.random() < 0.7:
            args[1] = chance.choice(panes.inside(panes.told(args[0])[0]))
        return args

    def test_against_a_model(self):
        chance = random.Random(13)
        seen = Counter()
        for _ in range(40):
            panes, model = Panes(self.sheets), Model()
            for _ in range(150):
                name = chance.choice(self.NAMES)
                args = self.args(chance, name, panes)
                error = model.refusal(name, args, 2)
                seen[name, error] += 1
                if error is None:
                    self.assertEqual(getattr(panes, name)(*args), getattr(model, name)(*args), (name, args))
                else:
                    with self.assertRaises(LookError) as caught:
                        getattr(panes, name)(*args)
                    self.assertIs(type(caught.exception), error, (name, args))
                self.assertEqual(state(panes), model.state(), (name, args))
        for name, error in (("put_into", NoParent), ("put_over", NoBrother), ("put_over", None), ("put_into", None),
                            ("open_pane", NoSize), ("turn", NoSheet), ("resize", NoSize), ("let_go", None)):
            self.assertGreater(seen[name, error], 10, (name, error))


if __name__ == "__main__":
    unittest.main()
