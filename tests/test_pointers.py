"""[21] and [22]: pointers, their chains, and the news of these."""

import inspect
import random
import unittest
from collections import Counter

from cells import DEEP, FAR, HUGE, some_deed, state
from panelook.drawing import shown_at
from panelook.errors import LookError, NoPane
from panelook.panes import Panes
from panelook.pointers import Pointer
from panelook.sheets import Sheets

ARGUMENTS = {"go": ["x", "y"], "leave_plane": [], "bind": ["pane"], "loose": [], "chain": [], "news": []}


def leave(*panes):
    return [("leave", pane) for pane in panes]


def enter(*panes):
    return [("enter", pane) for pane in panes]


def chain_to(panes, pane):
    """The pane and all in which it lies, the outermost first, found by calls within calls."""
    return chain_to(panes, panes.told(pane)[0]) + [pane] if pane else []


class PointerTest(unittest.TestCase):
    def setUp(self):
        """Opens panes 2 and 4 in 1, 3 in 2, and 5 beside 1: 4 over 3 at (6, 6), and 5 over 1 at (9, 9)."""
        self.sheets = Sheets()
        self.sheets.make(8, 4, "a")
        self.panes = Panes(self.sheets)
        for parent, x, y, w, h in ((0, 0, 0, 10, 10), (1, 2, 2, 5, 5), (2, 1, 1, 9, 9), (1, 6, 6, 2, 2),
                                   (0, 9, 9, 3, 3)):
            self.panes.open_pane(parent, 0, x, y, w, h)
        self.pointer = Pointer(self.panes)

    def refuse(self, pane):
        """Holds that the pointer cannot be bound to the number, and that nothing is changed by it."""
        before, chain = state(self.panes), self.pointer.chain()
        with self.assertRaises(LookError) as caught:
            self.pointer.bind(pane)
        self.assertIs(type(caught.exception), NoPane)
        self.assertEqual((state(self.panes), self.pointer.chain()), (before, chain))


class Interface(PointerTest):
    def test_arguments(self):
        self.assertEqual(list(inspect.signature(Pointer).parameters), ["panes"])
        for name, arguments in ARGUMENTS.items():
            self.assertIn(name, vars(Pointer))
            self.assertEqual(list(inspect.signature(vars(Pointer)[name]).parameters)[1:], arguments, name)

    def test_kinds(self):
        for told in (self.pointer.go(3, 3), self.pointer.bind(1), self.pointer.loose(), self.pointer.leave_plane()):
            self.assertIsNone(told)
        self.pointer.go(3, 3)
        chain, news = self.pointer.chain(), self.pointer.news()
        self.assertIs(type(chain), list)
        self.assertTrue(all(type(pane) is int for pane in chain))
        self.assertIs(type(news), list)
        self.assertTrue(all(type(row) is tuple and type(row[0]) is str and type(row[1]) is int for row in news))


class Chain(PointerTest):
    def test_at_no_place(self):
        self.assertEqual(self.pointer.chain(), [])
        self.panes.move(1, -50, -50)
        self.panes.resize(1, 200, 200)
        self.assertEqual(self.pointer.chain(), [])

    def test_at_cells(self):
        chains = {(0, 0): [1], (9, 8): [1], (10, 0): [], (2, 2): [1, 2], (3, 3): [1, 2, 3], (5, 6): [1, 2, 3],
                  (6, 6): [1, 4], (7, 7): [1, 4], (8, 8): [1], (9, 9): [5], (11, 11): [5], (12, 11): [], (-1, 0): [],
                  (6, 2): [1, 2], (7, 5): [1], (5, 7): [1]}
        for (x, y), chain in chains.items():
            self.pointer.go(x, y)
            self.assertEqual(self.pointer.chain(), chain, (x, y))

    def test_the_place_stays_when_panes_are_moved(self):
        self.pointer.go(3, 3)
        self.panes.move(2, 4, 4)
        self.assertEqual(self.pointer.chain(), [1])
        self.panes.move(5, 3, 3)
        self.assertEqual(self.pointer.chain(), [5])
        self.panes.sink(5)
        self.panes.put_into(5, 1)
        self.assertEqual(self.pointer.chain(), [1, 5])
        self.panes.hide(1)
        self.assertEqual(self.pointer.chain(), [])
        self.panes.show(1)
        self.panes.let_go(5)
        self.assertEqual(self.pointer.chain(), [1])

    def test_panes_opened_later(self):
        self.pointer.go(50, 50)
        self.assertEqual(self.pointer.chain(), [])
        self.assertEqual(self.panes.open_pane(0, 0, 50, 50, 1, 1), 6)
        self.assertEqual(self.pointer.chain(), [6])

    def test_leaves_the_plane_and_comes_back(self):
        self.pointer.go(3, 3)
        self.pointer.leave_plane()
        self.assertEqual(self.pointer.chain(), [])
        self.pointer.leave_plane()
        self.assertEqual(self.pointer.chain(), [])
        self.pointer.go(0, 0)
        self.assertEqual(self.pointer.chain(), [1])

    def test_a_blank_beyond_the_sheet_is_a_cell_of_the_pane(self):
        self.panes.scroll(3, FAR, -FAR)
        self.pointer.go(3, 3)
        self.assertEqual(self.pointer.chain(), [1, 2, 3])

    def test_far_off(self):
        for far in (FAR, -FAR, HUGE, -HUGE):
            self.pointer.go(far, -far)
            self.assertEqual(self.pointer.chain(), [])
            self.panes.move(1, far - 3, -far - 3)
            self.assertEqual(self.pointer.chain(), [1, 2, 3])

    def test_the_outermost_is_not_the_least(self):
        self.panes.put_into(1, 5)
        self.panes.move(1, 0, 0)
        self.panes.move(5, 0, 0)
        self.panes.resize(5, 20, 20)
        self.pointer.go(3, 3)
        self.assertEqual(self.pointer.chain(), [5, 1, 2, 3])

    def test_deep(self):
        inmost = 1
        for _ in range(DEEP):
            inmost = self.panes.open_pane(inmost, 0, 0, 0, 1, 1)
        chain = [1] + list(range(6, inmost + 1))
        self.pointer.go(0, 0)
        # Held to be true, as unittest takes very long to show how such lists differ.
        self.assertTrue(self.pointer.chain() == chain)
        self.assertTrue(self.pointer.news() == enter(*chain))
        self.panes.hide(inmost - 500)
        self.assertTrue(self.pointer.news() == leave(*range(inmost, inmost - 501, -1)))
        self.pointer.bind(inmost)
        self.assertTrue(self.pointer.chain() == chain)
        self.assertEqual(len(self.pointer.news()), 501)
        self.panes.let_go(6)
        self.assertEqual(self.pointer.chain(), [1])
        self.assertTrue(self.pointer.news() == leave(*range(inmost, 5, -1)))


class Bound(PointerTest):
    def test_wherever_the_pointer_is(self):
        self.pointer.bind(2)
        self.assertEqual(self.pointer.chain(), [1, 2])
        for x, y in ((0, 0), (9, 9), (-50, 50), (3, 3), (FAR, FAR)):
            self.pointer.go(x, y)
            self.assertEqual(self.pointer.chain(), [1, 2])
        self.pointer.leave_plane()
        self.assertEqual(self.pointer.chain(), [1, 2])

    def test_a_pane_that_is_not_seen(self):
        self.pointer.bind(3)
        self.panes.hide(3)
        self.assertEqual(self.pointer.chain(), [1, 2, 3])
        self.panes.show(3)
        self.panes.hide(1)
        self.assertEqual(self.pointer.chain(), [1, 2, 3])
        self.panes.show(1)
        self.panes.move(2, 90, 90)
        self.assertEqual(self.pointer.chain(), [1, 2, 3])
        self.panes.open_pane(0, 0, -9, -9, 90, 90)
        self.assertEqual(self.pointer.chain(), [1, 2, 3])

    def test_to_one_that_is_hidden_or_covered_already(self):
        self.panes.hide(2)
        for pane, chain in ((2, [1, 2]), (3, [1, 2, 3]), (5, [5])):
            self.pointer.bind(pane)
            self.assertEqual(self.pointer.chain(), chain)

    def test_put_into_another_parent(self):
        self.pointer.bind(3)
        self.panes.put_into(3, 5)
        self.assertEqual(self.pointer.chain(), [5, 3])
        self.panes.put_into(3, 0)
        self.assertEqual(self.pointer.chain(), [3])

    def test_loosed(self):
        self.pointer.go(9, 9)
        self.pointer.bind(3)
        self.pointer.loose()
        self.assertEqual(self.pointer.chain(), [5])
        self.pointer.loose()
        self.assertEqual(self.pointer.chain(), [5])

    def test_loosed_at_the_place_it_went_to_meanwhile(self):
        self.pointer.bind(3)
        self.pointer.go(6, 6)
        self.pointer.loose()
        self.assertEqual(self.pointer.chain(), [1, 4])
        self.pointer.bind(3)
        self.pointer.leave_plane()
        self.pointer.loose()
        self.assertEqual(self.pointer.chain(), [])

    def test_bound_to_another_one(self):
        self.pointer.bind(3)
        self.pointer.bind(5)
        self.assertEqual(self.pointer.chain(), [5])
        self.panes.let_go(3)
        self.assertEqual(self.pointer.chain(), [5])
        self.panes.let_go(5)
        self.assertEqual(self.pointer.chain(), [])

    def test_the_pane_is_let_go(self):
        self.pointer.go(9, 9)
        self.pointer.bind(3)
        self.panes.let_go(3)
        self.assertEqual(self.pointer.chain(), [5])
        self.pointer.leave_plane()
        self.assertEqual(self.pointer.chain(), [])
        self.pointer.go(2, 2)
        self.assertEqual(self.pointer.chain(), [1, 2])

    def test_one_in_which_it_lies_is_let_go(self):
        self.pointer.go(9, 9)
        for outer in (2, 1):
            self.pointer.bind(outer)
            self.panes.let_go(outer)
            self.assertEqual(self.pointer.chain(), [5])
        self.setUp()
        self.pointer.go(9, 9)
        self.pointer.bind(3)
        self.panes.let_go(1)
        self.assertEqual(self.pointer.chain(), [5])
        self.pointer.loose()
        self.assertEqual(self.pointer.chain(), [5])

    def test_one_opened_later_is_not_the_one_let_go(self):
        self.pointer.bind(5)
        self.panes.let_go(5)
        self.panes.open_pane(0, 0, 9, 9, 3, 3)
        self.assertEqual(self.pointer.chain(), [])

    def test_to_no_pane(self):
        self.panes.let_go(4)
        for pane in (0, 4, 6, -1, FAR, -FAR, HUGE):
            self.refuse(pane)

    def test_refusals_leave_it_bound_and_at_its_place(self):
        self.pointer.go(9, 9)
        self.pointer.bind(3)
        self.pointer.news()
        for pane in (0, 6, -1):
            self.refuse(pane)
        self.assertEqual((self.pointer.chain(), self.pointer.news()), ([1, 2, 3], []))
        self.pointer.loose()
        self.refuse(0)
        self.assertEqual(self.pointer.chain(), [5])

    def test_refused_where_the_bound_one_was_let_go(self):
        self.pointer.go(9, 9)
        self.pointer.bind(3)
        self.panes.let_go(3)
        self.refuse(3)
        self.assertEqual(self.pointer.chain(), [5])


class News(PointerTest):
    def test_at_first_there_are_none(self):
        self.assertEqual(self.pointer.news(), [])
        self.assertEqual(self.pointer.news(), [])

    def test_enters_the_outermost_first_and_leaves_from_the_end_on(self):
        self.pointer.go(3, 3)
        self.assertEqual(self.pointer.news(), enter(1, 2, 3))
        self.assertEqual(self.pointer.news(), [])
        self.pointer.leave_plane()
        self.assertEqual(self.pointer.news(), leave(3, 2, 1))
        self.assertEqual(self.pointer.news(), [])

    def test_leaves_first_and_then_enters(self):
        self.pointer.go(3, 3)
        self.pointer.news()
        self.pointer.go(6, 6)
        self.assertEqual(self.pointer.news(), leave(3, 2) + enter(4))
        self.pointer.go(9, 9)
        self.assertEqual(self.pointer.news(), leave(4, 1) + enter(5))
        self.pointer.go(3, 3)
        self.assertEqual(self.pointer.news(), leave(5) + enter(1, 2, 3))

    def test_only_what_differs_from_the_last_time_it_was_asked(self):
        self.pointer.go(3, 3)
        self.pointer.news()
        for x, y in ((9, 9), (50, 50), (0, 0)):
            self.pointer.go(x, y)
            self.pointer.chain()
        self.assertEqual(self.pointer.news(), leave(3, 2))
        self.pointer.go(9, 9)
        self.pointer.go(0, 0)
        self.assertEqual(self.pointer.news(), [])

    def test_deeds_at_panes(self):
        self.pointer.go(3, 3)
        self.pointer.news()
        self.panes.hide(3)
        self.assertEqual(self.pointer.news(), leave(3))
        self.panes.move(5, 0, 0)
        self.panes.resize(5, 9, 9)
        self.assertEqual(self.pointer.news(), leave(2, 1) + enter(5))
        self.panes.move(1, 0, 0)
        self.panes.put_into(1, 5)
        self.assertEqual(self.pointer.news(), enter(1, 2))
        self.sheets.write(0, 0, 0, "xyz")
        self.assertEqual(self.pointer.news(), [])

    def test_let_go(self):
        self.pointer.go(3, 3)
        self.pointer.news()
        self.panes.let_go(2)
        self.assertEqual(self.pointer.news(), leave(3, 2))
        self.panes.let_go(1)
        self.panes.open_pane(0, 0, 3, 3, 1, 1)
        self.assertEqual(self.pointer.news(), leave(1) + enter(6))

    def test_panes_whose_order_in_the_chain_is_another_one(self):
        self.pointer.bind(3)
        self.pointer.news()
        self.panes.put_into(3, 0)
        self.panes.put_into(2, 3)
        self.pointer.bind(2)
        self.assertEqual(self.pointer.chain(), [3, 2])
        self.assertEqual(self.pointer.news(), leave(1))
        self.panes.put_into(3, 1)
        self.assertEqual(self.pointer.news(), enter(1))

    def test_one_comes_between(self):
        self.pointer.bind(2)
        self.pointer.news()
        self.panes.put_into(5, 1)
        self.panes.put_into(2, 5)
        self.assertEqual((self.pointer.chain(), self.pointer.news()), ([1, 5, 2], enter(5)))
        self.panes.put_into(2, 1)
        self.assertEqual(self.pointer.news(), leave(5))

    def test_bound_and_loosed(self):
        self.pointer.go(9, 9)
        self.pointer.news()
        self.pointer.bind(3)
        self.assertEqual(self.pointer.news(), leave(5) + enter(1, 2, 3))
        self.pointer.go(0, 0)
        self.assertEqual(self.pointer.news(), [])
        self.panes.let_go(3)
        self.assertEqual(self.pointer.news(), leave(3, 2))
        self.pointer.bind(4)
        self.pointer.loose()
        self.assertEqual(self.pointer.news(), [])

    def test_two_pointers_by_turns(self):
        other = Pointer(self.panes)
        self.pointer.go(3, 3)
        self.assertEqual((other.chain(), other.news()), ([], []))
        other.go(6, 6)
        self.assertEqual(other.news(), enter(1, 4))
        self.assertEqual(self.pointer.news(), enter(1, 2, 3))
        other.bind(5)
        self.assertEqual((self.pointer.chain(), self.pointer.news()), ([1, 2, 3], []))
        self.assertEqual(other.news(), leave(4, 1) + enter(5))
        self.panes.let_go(1)
        self.assertEqual((other.news(), self.pointer.news()), ([], leave(3, 2, 1)))

    def test_two_planes(self):
        plane = Panes(self.sheets)
        other = Pointer(plane)
        self.pointer.go(3, 3)
        other.go(3, 3)
        self.assertEqual((self.pointer.chain(), other.chain()), ([1, 2, 3], []))
        plane.open_pane(0, 0, 0, 0, 9, 9)
        self.panes.let_go(1)
        self.assertEqual((self.pointer.chain(), other.chain()), ([], [1]))


class Lists(PointerTest):
    def test_told_lists_are_the_askers_own(self):
        self.pointer.go(3, 3)
        for told in (self.pointer.chain(), self.pointer.news(), self.pointer.chain()):
            told.append("more")
            told[0] = "other"
            self.assertEqual(self.pointer.chain(), [1, 2, 3])
        self.assertEqual(self.pointer.news(), [])
        self.pointer.chain().clear()
        self.pointer.news().append("more")
        self.assertEqual((self.pointer.chain(), self.pointer.news()), ([1, 2, 3], []))
        self.pointer.leave_plane()
        self.assertEqual(self.pointer.news(), leave(3, 2, 1))

    def test_nothing_done_later_changes_them(self):
        self.pointer.go(3, 3)
        chain, news = self.pointer.chain(), self.pointer.news()
        self.panes.let_go(1)
        self.pointer.go(9, 9)
        self.pointer.news()
        self.assertEqual((chain, news), ([1, 2, 3], enter(1, 2, 3)))

    def test_nothing_is_changed_at_the_panes(self):
        before = state(self.panes)
        self.pointer.go(3, 3)
        self.pointer.bind(4)
        self.pointer.chain()
        self.pointer.news()
        self.pointer.loose()
        self.pointer.leave_plane()
        self.assertEqual(state(self.panes), before)

    def test_what_is_told_may_be_handed_in(self):
        self.pointer.go(3, 3)
        for pane in self.pointer.chain():
            self.pointer.bind(pane)
            self.assertEqual(self.pointer.chain()[-1], pane)


class Kept:
    """A pointer, with its place, the pane it is bound to, and its last news held beside it."""

    def __init__(self, test, panes):
        self.test = test
        self.panes = panes
        self.pointer = Pointer(panes)
        self.place = self.bound = None
        self.old = []

    def do(self, chance):
        name = chance.choice(["go", "go", "go", "leave_plane", "bind", "bind", "loose"])
        if name == "go":
            self.place = (chance.randint(-4, 14), chance.randint(-4, 10))
            self.pointer.go(*self.place)
        elif name == "leave_plane":
            self.place = None
            self.pointer.leave_plane()
        elif name == "loose":
            self.bound = None
            self.pointer.loose()
        else:
            self.bind(chance.choice(self.panes.all_panes() + [0, self.panes.following()]))

    def bind(self, pane):
        if pane in self.panes.all_panes():
            self.bound = pane
            self.pointer.bind(pane)
        else:
            self.test.assertRaises(NoPane, self.pointer.bind, pane)

    def hold(self, told):
        """Holds the chain and the news against what is kept."""
        bound = self.bound in self.panes.all_panes()
        shown = shown_at(self.panes, *self.place) if self.place else None
        chain = chain_to(self.panes, self.bound if bound else shown[0] if shown else 0)
        self.test.assertEqual(self.pointer.chain(), chain)
        gone = [pane for pane in self.old[::-1] if pane not in chain]
        come = [pane for pane in chain if pane not in self.old]
        self.test.assertEqual(self.pointer.news(), leave(*gone) + enter(*come))
        self.old = chain
        told.update([f"{bool(gone)} {bool(come)}", f"chain of {len(chain)}", f"bound {bound}"])


class ManyDeeds(PointerTest):
    def test_against_what_is_kept(self):
        told = Counter()
        for number in range(60):
            chance = random.Random(number)
            self.setUp()
            pointers = [Kept(self, self.panes) for _ in range(3)]
            for _ in range(60):
                for _ in range(chance.choice([0, 1, 1, 4])):
                    some_deed(chance, self.panes)
                kept = chance.choice(pointers)
                for _ in range(chance.choice([0, 0, 1, 2])):
                    kept.do(chance)
                kept.hold(told)
        for kind in ("chain of 0", "chain of 1", "chain of 2", "chain of 3", "bound True", "bound False",
                     "True True", "True False", "False True", "False False"):
            self.assertGreater(told[kind], 40, (kind, told))


if __name__ == "__main__":
    unittest.main()
