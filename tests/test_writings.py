"""[23] and [24]: panes with their sheets written as a text, and read back from one."""

import inspect
import random
import re
import sys
import unittest
from collections import Counter

from cells import DEEP, FAR, HUGE, SceneTest, some_deed, state
from panelook import writings
from panelook.drawing import drawn
from panelook.errors import LookError, NoPane, NoText
from panelook.panes import Panes
from panelook.pointers import Pointer
from panelook.sheets import Sheets
from panelook.viewers import Viewer
from panelook.writings import read_panes, show_panes

SIGNS = "".join(chr(code) for code in range(32, 127) if code != 37)

NUMBER = "(0|-?[1-9][0-9]{0,59})"
SHEET = f"sheet {NUMBER} {NUMBER} {NUMBER}\n" + r"((?:\|[ -$&-~]*\n)*)"
PANE = (f"pane {NUMBER} in {NUMBER} sheet {NUMBER} at {NUMBER} {NUMBER} size {NUMBER} {NUMBER} "
        f"from {NUMBER} {NUMBER} (shown|hidden)\n")
ORDER = f"order ({NUMBER}(?: {NUMBER})+)\n"
WHOLE = f"next {NUMBER} {NUMBER}\n(?P<sheets>(?:{SHEET})*)(?P<panes>(?:{PANE})*)(?P<orders>(?:{ORDER})*)"

TEXT = "".join(row + "\n" for row in (
    "next 2 9",
    "sheet 0 3 2",
    "|a |",
    "||~ ",
    "sheet 1 1 1",
    "|b",
    "pane 2 in 7 sheet 1 at -4 0 size 5 6 from 0 0 shown",
    "pane 5 in 0 sheet 0 at 10 -20 size 1 2 from -3 4 hidden",
    "pane 7 in 0 sheet 0 at 0 0 size 9 9 from 0 0 shown",
    "pane 8 in 7 sheet 1 at 0 0 size 9 9 from 0 0 hidden",
    "order 0 7 5",
    "order 7 8 2"))


def is_right(text):
    """Whether the text is one that panes are written as, found by other ways than the program's."""
    whole = re.fullmatch(WHOLE, text)
    if not whole:
        return False
    many, upcoming = [int(word) for word in text.split("\n")[0].split(" ")[1:]]
    sheets = re.findall(SHEET, whole["sheets"])
    panes = {int(row[0]): [int(word) for word in row[1:9]] for row in re.findall(PANE, whole["panes"])}
    numbers = [int(row[0]) for row in re.findall(PANE, whole["panes"])]
    orders = [[int(word) for word in row[0].split(" ")] for row in re.findall(ORDER, whole["orders"])]
    lying = {}
    for pane in sorted(panes):
        lying.setdefault(panes[pane][0], []).append(pane)
    return (many == len(sheets) and all(sheet_is_right(at, row) for at, row in enumerate(sheets)) and
            numbers == sorted(set(numbers)) and min(numbers, default=1) > 0 and max([0] + numbers) < upcoming and
            all(facts[1] in range(many) and min(facts[4:6]) > 0 for facts in panes.values()) and
            [(row[0], sorted(row[1:])) for row in orders] == sorted(lying.items()) and
            all(comes_to_the_plane(panes, pane) for pane in panes))


def sheet_is_right(at, row):
    number, w, h = [int(word) for word in row[:3]]
    lengths = [len(signs) - 1 for signs in row[3].split("\n")[:-1]]
    return number == at and w in range(1, 61) and h in range(1, 61) and lengths == [w] * h


def comes_to_the_plane(panes, pane):
    for _ in range(len(panes)):
        pane = panes[pane][0] if pane in panes else pane
    return pane == 0


class WritingTest(SceneTest):
    def refuse(self, text, why=None):
        with self.assertRaises(LookError, msg=why or text) as caught:
            read_panes(text)
        self.assertIs(type(caught.exception), NoText, why or text)

    def hold(self, panes):
        """Holds that what is read back tells, draws and is written the same; tells it."""
        before, text = state(panes), show_panes(panes)
        self.assertEqual(show_panes(panes), text)
        read = read_panes(text)
        now = state(read)
        self.assertEqual((now[:4], now[4], now[5]), (before[:4], 0, before[5]))
        sheets, old = read.sheets_kept(), panes.sheets_kept()
        self.assertIsNot(sheets, old)
        for sheet in range(old.how_many()):
            self.assertEqual((sheets.size_of(sheet), sheets.met(sheet, 0)), (old.size_of(sheet), ()))
        self.assertEqual(drawn(read, -9, -9, 40, 30), drawn(panes, -9, -9, 40, 30))
        self.assertEqual(show_panes(read), text)
        self.assertEqual(state(panes), before)
        return read


class Interface(WritingTest):
    def test_arguments(self):
        for name, arguments in {"show_panes": ["panes"], "read_panes": ["text"]}.items():
            self.assertEqual(list(inspect.signature(getattr(writings, name)).parameters), arguments)

    def test_kinds(self):
        self.assertIs(type(show_panes(self.panes)), str)
        read = read_panes(TEXT)
        self.assertIs(type(read), Panes)
        self.assertIs(type(read.sheets_kept()), Sheets)
        self.assertEqual([type(part) for part in read.told(2)], [int] * 8 + [bool])
        self.assertEqual([type(part) for part in read.told(5)], [int] * 8 + [bool])
        self.assertEqual([type(part) for part in read.inside(0) + [read.following()]], [int] * 3)


class Show(WritingTest):
    def test_no_sheets_and_no_panes(self):
        self.assertEqual(show_panes(Panes(Sheets())), "next 0 1\n")

    def test_sheets_alone(self):
        self.sheets.write(1, 0, 1, "| ~")
        self.sheets.fill(1, 0, 0, 3, 1, " ")
        self.assertEqual(show_panes(self.panes), "next 2 1\nsheet 0 8 4\n|01234567\n|abcdefgh\n" +
                         "|aaaaaaaa\n" * 2 + "sheet 1 3 3\n|   \n|| ~\n|bbb\n")

    def test_panes_and_their_orders(self):
        for at in range(3):
            self.pane(at, -at, at + 1, 4)
        self.pane(-1, 5, 6, 7, 2, 1)
        self.pane(0, 0, 1, 1, 2)
        self.panes.sink(3)
        self.panes.scroll(4, -3, 8)
        self.panes.hide(4)
        self.panes.lift(4)
        self.panes.put_into(1, 3)
        rows = show_panes(self.panes).split("\n")
        self.assertEqual(rows[0], "next 2 6")
        self.assertEqual(rows[10:], ["pane 1 in 3 sheet 0 at 0 0 size 1 4 from 0 0 shown",
                                     "pane 2 in 0 sheet 0 at 1 -1 size 2 4 from 0 0 shown",
                                     "pane 3 in 0 sheet 0 at 2 -2 size 3 4 from 0 0 shown",
                                     "pane 4 in 2 sheet 1 at -1 5 size 6 7 from -3 8 hidden",
                                     "pane 5 in 2 sheet 0 at 0 0 size 1 1 from 0 0 shown",
                                     "order 0 3 2", "order 2 5 4", "order 3 1", ""])

    def test_panes_let_go(self):
        for _ in range(3):
            self.pane(0, 0, 1, 1)
        self.panes.let_go(3)
        self.panes.let_go(1)
        rows = show_panes(self.panes).split("\n")
        self.assertEqual((rows[0], rows[10:]), ("next 2 4", ["pane 2 in 0 sheet 0 at 0 0 size 1 1 from 0 0 shown",
                                                             "order 0 2", ""]))
        self.panes.let_go(2)
        self.assertEqual(show_panes(self.panes).split("\n")[10:], [""])

    def test_more_than_nine_of_each(self):
        for _ in range(12):
            self.sheets.make(1, 1, "c")
            self.pane(0, 0, 1, 1)
        rows = show_panes(self.panes).split("\n")
        self.assertEqual([row for row in rows if row.startswith("sheet")][2:],
                         [f"sheet {sheet} 1 1" for sheet in range(2, 14)])
        self.assertEqual([row.split(" ")[1] for row in rows if row.startswith("pane")],
                         [str(pane) for pane in range(1, 13)])
        self.assertEqual(rows[-2], "order 0 1 2 3 4 5 6 7 8 9 10 11 12")

    def test_numbers_beyond_sixty_figures_are_written_but_not_read(self):
        self.pane(FAR + 1, -FAR - 1, 1, 1)
        text = show_panes(self.panes)
        self.assertIn(" at 1" + "0" * 60 + " -1" + "0" * 60 + " size", text)
        self.refuse(text)

    def test_numbers_beyond_what_python_writes_out_at_once(self):
        limit = sys.get_int_max_str_digits()
        for number in (FAR, FAR + 1, FAR + 8, 10 ** 119, 10 ** 120 - 1, 10 ** 120, 10 ** 120 + 10 ** 60, 7 * 10 ** 999,
                       HUGE):
            sys.set_int_max_str_digits(0)
            figures = str(number)
            sys.set_int_max_str_digits(limit)
            self.setUp()
            self.pane(number, -number, number, 1)
            self.panes.scroll(1, -number, number)
            row = f"pane 1 in 0 sheet 0 at {figures} -{figures} size {figures} 1 from -{figures} {figures} shown"
            self.assertTrue(show_panes(self.panes).split("\n")[10] == row)

    def test_nothing_is_changed(self):
        self.pane(0, 0, 1, 1)
        before = state(self.panes)
        show_panes(self.panes)
        self.assertEqual(state(self.panes), before)

    def test_later_deeds_leave_the_text(self):
        self.pane(0, 0, 1, 1)
        text = show_panes(self.panes)
        self.sheets.write(0, 0, 0, "zz")
        self.panes.let_go(1)
        self.assertIn("|01234567\n", text)
        self.assertNotEqual(show_panes(self.panes), text)


class Read(WritingTest):
    def test_told_by_hand(self):
        read = read_panes(TEXT)
        sheets = read.sheets_kept()
        self.assertEqual((sheets.how_many(), sheets.written()), (2, 0))
        self.assertEqual([sheets.rows_of(sheet) for sheet in (0, 1)], [["a |", "|~ "], ["b"]])
        self.assertEqual([sheets.size_of(sheet) for sheet in (0, 1)], [(3, 2), (1, 1)])
        self.assertEqual(read.all_panes(), [2, 5, 7, 8])
        self.assertEqual([read.told(pane) for pane in (2, 5, 7, 8)],
                         [(7, 1, -4, 0, 5, 6, 0, 0, False), (0, 0, 10, -20, 1, 2, -3, 4, True),
                          (0, 0, 0, 0, 9, 9, 0, 0, False), (7, 1, 0, 0, 9, 9, 0, 0, True)])
        self.assertEqual([read.inside(parent) for parent in (0, 2, 5, 7, 8)], [[7, 5], [], [], [8, 2], []])
        self.assertEqual(read.following(), 9)
        self.assertEqual(show_panes(read), TEXT)
        self.hold(read)

    def test_no_sheets_and_no_panes(self):
        for text in ("next 0 1\n", "next 0 2\n", f"next 0 {FAR}\n"):
            read = read_panes(text)
            self.assertEqual((read.all_panes(), read.inside(0), read.sheets_kept().how_many()), ([], [], 0))
            self.assertEqual(show_panes(read), text)
        self.hold(Panes(Sheets()))

    def test_sheets_alone(self):
        self.hold(self.panes)

    def test_every_sign(self):
        self.assertEqual(len(SIGNS), 94)
        self.sheets.make(60, 60, "|")
        self.sheets.write(2, 0, 0, SIGNS[:60])
        self.sheets.write(2, 5, 59, SIGNS[60:])
        self.sheets.make(1, 60, " ")
        self.sheets.make(60, 1, "~")
        for sign in SIGNS:
            self.sheets.make(1, 1, sign)
        read = self.hold(self.panes)
        self.assertEqual(read.sheets_kept().rows_of(2)[0], SIGNS[:60])

    def test_hidden_panes(self):
        for at in range(4):
            self.pane(0, 0, 9, 9, at)
        self.panes.hide(2)
        self.panes.hide(4)
        read = self.hold(self.panes)
        self.assertEqual([read.told(pane)[8] for pane in (1, 2, 3, 4)], [False, True, False, True])
        read.show(2)
        read.hide(1)
        self.assertEqual([read.told(pane)[8] for pane in (1, 2, 3, 4)], [True, False, False, True])

    def test_orders_in_which_the_numbers_do_not_rise(self):
        for parent in (0, 0, 0, 2, 2, 2, 0):
            self.pane(0, 0, 2, 2, parent)
        self.panes.lift(1)
        self.panes.sink(7)
        self.panes.sink(6)
        self.panes.put_over(4, 5)
        read = self.hold(self.panes)
        self.assertEqual((read.inside(0), read.inside(2)), ([7, 2, 3, 1], [6, 5, 4]))

    def test_parents_with_greater_numbers(self):
        for _ in range(6):
            self.pane(1, 1, 9, 9)
        for pane in range(1, 6):
            self.panes.put_into(pane, pane + 1)
        read = self.hold(self.panes)
        self.assertEqual([read.told(pane)[0] for pane in range(1, 7)], [2, 3, 4, 5, 6, 0])
        self.panes.put_into(6, 0)
        self.panes.put_into(2, 6)
        self.hold(self.panes)

    def test_next_numbers(self):
        for upcoming in (9, 10, 100, 10 ** 59, FAR - 1, FAR):
            text = TEXT.replace("next 2 9", f"next 2 {upcoming}")
            read = read_panes(text)
            self.assertEqual(show_panes(read), text)
            self.assertEqual(read.following(), upcoming)
            self.assertEqual(read.open_pane(0, 0, 0, 0, 1, 1), upcoming)
            self.assertEqual(read.open_pane(upcoming, 0, 0, 0, 1, 1), upcoming + 1)
            self.assertEqual(read.all_panes(), [2, 5, 7, 8, upcoming, upcoming + 1])
            self.assertEqual(read.following(), upcoming + 2)

    def test_numbers_of_sixty_figures(self):
        self.pane(FAR, -FAR, FAR, FAR)
        self.pane(-FAR, FAR, 1, FAR, 1)
        self.panes.scroll(1, -FAR, FAR)
        self.panes.scroll(2, FAR, -FAR)
        self.hold(self.panes)
        text = show_panes(self.panes)
        text = text.replace("next 2 3", f"next 2 {FAR}").replace(" 1 2\n", f" 1 {FAR - 1}\n")
        text = text.replace("pane 2 in", f"pane {FAR - 1} in")
        read = read_panes(text)
        self.assertEqual((read.all_panes(), read.inside(1)), ([1, FAR - 1], [FAR - 1]))
        self.assertEqual(show_panes(read), text)

    def test_deeds_on_what_was_read(self):
        read = read_panes(TEXT)
        before = state(read)
        read.sheets_kept().write(0, 0, 0, "xyz")
        self.assertEqual((read.sheets_kept().written(), read.sheets_kept().rows_of(0)[0]), (1, "xyz"))
        self.assertEqual(read.sheets_kept().met(0, 0), ((0, 1, ((0, 3),)),))
        self.assertEqual(read.sheets_kept().make(2, 2, "n"), 2)
        read.put_into(7, 5)
        read.move(2, 1, 1)
        read.turn(2, 2)
        self.assertEqual((read.inside(0), read.inside(5), read.told(2)[:4]), ([5], [7], (7, 2, 1, 1)))
        read.lift(8)
        read.let_go(7)
        self.assertEqual((read.all_panes(), read.following()), ([5], 9))
        self.assertRaises(NoPane, read.told, 8)
        self.assertEqual(read.open_pane(5, 0, 0, 0, 1, 1), 9)
        self.assertEqual(state(read_panes(TEXT)), before)

    def test_deeds_on_one_change_nothing_of_the_other(self):
        self.pane(0, 0, 5, 5)
        self.pane(1, 1, 5, 5, 1, 1)
        read = self.hold(self.panes)
        before, other = state(self.panes), state(read)
        read.sheets_kept().fill(0, 0, 0, 9, 9, "z")
        read.move(1, 3, 3)
        read.let_go(2)
        read.sheets_kept().make(1, 1, "n")
        self.assertEqual(state(self.panes), before)
        again = read_panes(show_panes(self.panes))
        self.sheets.fill(0, 0, 0, 9, 9, "y")
        self.panes.sink(2)
        self.pane(0, 0, 1, 1)
        self.panes.let_go(1)
        self.assertEqual(state(again), other)

    def test_two_readings_of_one_text(self):
        one, other = read_panes(TEXT), read_panes(TEXT)
        one.let_go(7)
        one.sheets_kept().write(0, 0, 0, "x")
        self.assertEqual(show_panes(other), TEXT)

    def test_viewers_and_pointers_of_what_was_read(self):
        self.pane(0, 0, 5, 3)
        self.pane(1, 1, 5, 5, 1, 1)
        read = self.hold(self.panes)
        viewer, pointer = Viewer(read, 0, 0, 6, 4), Pointer(read)
        viewer.refresh()
        self.assertEqual(viewer.board(), drawn(self.panes, 0, 0, 6, 4))
        read.sheets_kept().write(1, 0, 0, "x")
        self.assertEqual(viewer.refresh(), [("paint", 2, ((1, 2, ((1, 2),)),))])
        pointer.go(1, 1)
        self.assertEqual(pointer.chain(), [1, 2])

    def test_deep(self):
        pane = 0
        for _ in range(DEEP):
            pane = self.pane(1, 0, DEEP, 3, pane)
        self.panes.hide(DEEP // 2)
        self.hold(self.panes)
        # The same nest, but the outermost one with the greatest number.
        for at in range(DEEP, 0, -1):
            self.panes.put_into(at, 0)
        for at in range(1, DEEP):
            self.panes.put_into(at, at + 1)
        read = self.hold(self.panes)
        pointer = Pointer(read)
        pointer.bind(1)
        self.assertEqual(pointer.chain(), list(range(DEEP, 0, -1)))
        text = show_panes(read).replace(f"pane {DEEP} in 0", f"pane {DEEP} in 1").replace(f"order 0 {DEEP}\n", "")
        self.refuse(text.replace("order 2 1\n", f"order 1 {DEEP}\norder 2 1\n"), "all round")

    def test_many_panes_in_one_parent(self):
        for at in range(3000):
            self.pane(at, 0, 1, 1)
        self.hold(self.panes)


class Refused(WritingTest):
    """Texts that differ from a right one by one thing alone."""

    def other(self, old, new, text=TEXT):
        """The text with the one place where the old words stand changed."""
        self.assertEqual(text.count(old), 1, old)
        return text.replace(old, new)

    def refuse_each(self, old, *news):
        for new in news:
            self.assertFalse(is_right(self.other(old, new)), new)
            self.refuse(self.other(old, new))

    def test_the_right_ones(self):
        self.assertTrue(is_right(TEXT))
        for text in (self.other("next 2 9", "next 2 19"), self.other("order 0 7 5", "order 0 5 7"),
                     self.other("|b\n", "|~\n"), self.other("at 10 -20", "at -10 0")):
            self.assertTrue(is_right(text))
            self.assertEqual(show_panes(read_panes(text)), text)

    def test_no_text_at_all(self):
        for text in ("", "\n", "\n\n", " ", "\t", "next", "x\n", "|\n"):
            self.refuse(text)

    def test_a_row_less(self):
        rows = TEXT.split("\n")[:-1]
        for at in range(len(rows)):
            self.refuse("".join(row + "\n" for row in rows[:at] + rows[at + 1:]), rows[at])

    def test_a_row_more(self):
        rows = TEXT.split("\n")[:-1]
        for more in ("", " ", "\t", "x", "|", "|b", "next 2 9", "next", "sheet", "pane", "order", "order 2",
                     "sheet 2 1 1", "order 8 5", "pane 3 in 0 sheet 0 at 0 0 size 1 1 from 0 0 shown"):
            for at in range(len(rows) + 1):
                text = "".join(row + "\n" for row in rows[:at] + [more] + rows[at:])
                self.assertFalse(is_right(text))
                self.refuse(text, (more, at))

    def test_a_row_twice_or_at_another_place(self):
        rows = TEXT.split("\n")[:-1]
        for at, row in enumerate(rows):
            less = rows[:at] + rows[at + 1:]
            for to in range(len(rows) + 1):
                self.refuse("".join(row + "\n" for row in rows[:to] + [row] + rows[to:]), (row, to))
                other = "".join(row + "\n" for row in less[:to] + [row] + less[to:])
                if other != TEXT and not is_right(other):
                    self.refuse(other, (row, to))
        self.assertTrue(is_right(self.other("|a |\n||~ \n", "||~ \n|a |\n")))

    def test_the_next_row(self):
        self.refuse_each("next 2 9", "next 2", "next 9", "next", "next 2 9 9", "Next 2 9", "text 2 9", "next 1 9",
                         "next 3 9", "next 0 9", "next -2 9", "next 2 8", "next 2 7", "next 2 0", "next 2 -9", "2 9",
                         "next two 9", f"next {FAR} 9", "next 2 9 ", "next 02 9", "next 2 +9", f"next 2 {FAR + 1}")
        for text in ("next 0 0\n", "next 0 -1\n", "next -1 1\n", "next 1 1\n", "next 0 1", "next 0 1\n\n", "next 0\n",
                     "next  0 1\n", " next 0 1\n", "next 0 1 \n", "next\t0 1\n", "next -0 1\n", "next 00 1\n",
                     "next 0 01\n", "next 0 1\norder 0\n", "next 0 1\norder 0 \n", "next 0 1\norder 0 1\n"):
            self.assertFalse(is_right(text), text)
            self.refuse(text)

    def test_other_signs_in_a_number(self):
        for sign in SIGNS + chr(37) + "\t\n":
            if sign not in "0123456789":
                for word in (sign, sign + "2", "2" + sign, "2" + sign + "2", "-" + sign):
                    if word != "-2":
                        self.refuse(f"next 0 {word}\n")
                        self.refuse(self.other("at 10 -20", f"at {word} -20"))

    def test_sizes_of_sheets(self):
        for w, h in ((0, 0), (0, 1), (1, 0), (61, 1), (1, 61), (61, 61), (-1, 1), (1, -1), (-1, -1), (FAR, 1),
                     (1, FAR)):
            rows = ("|" + "x" * min(w, 99) + "\n") * min(h, 99)
            self.refuse(f"next 1 1\nsheet 0 {w} {h}\n{rows}", (w, h))
        for w, h in ((1, 1), (60, 1), (1, 60), (60, 60)):
            text = f"next 1 1\nsheet 0 {w} {h}\n" + ("|" + "x" * w + "\n") * h
            self.assertEqual(read_panes(text).sheets_kept().size_of(0), (w, h))

    def test_the_row_of_a_sheet(self):
        self.refuse_each("sheet 1 1 1", "sheet 1 1", "sheet 1", "sheet", "sheet 1 1 1 1", "sheets 1 1 1", "1 1 1",
                         "sheet 0 1 1", "sheet 2 1 1", "sheet -1 1 1", "sheet 1 2 1", "sheet 1 1 2", "sheet 1 0 1",
                         "sheet 1 1 0", "sheet 1 x 1", "sheet 01 1 1", "Sheet 1 1 1", "|sheet 1 1 1")
        self.refuse_each("sheet 0 3 2", "sheet 1 3 2", "sheet 0 2 3", "sheet 0 3 1", "sheet 0 3 3", "sheet -0 3 2",
                         "sheet 0 4 2", "sheet 0 2 2")

    def test_the_signs_of_a_sheet(self):
        self.refuse_each("|a |\n", "|a \n", "|a\n", "|\n", "\n", "", "|a | \n", "|a |x\n", "a |\n", " |a |\n",
                         "x|a |\n", "|a |\n|a |\n", "||a |\n", "|a\n |\n", "|a |", "|a\t|\n", "|\t |\n",
                         "|a " + chr(37) + "\n", "|a \x7f\n", "|a \x1f\n", "|a \xe4\n", "|a \r\n", "|a\x0b|\n",
                         "|a \u0663\n", "/a |\n")
        self.refuse_each("||~ \n", "||~\n", "||~  \n", "|~ \n", "|||~ \n", "||~ |\n")

    def test_the_row_of_a_pane(self):
        row = "pane 5 in 0 sheet 0 at 10 -20 size 1 2 from -3 4 hidden"
        words = row.split(" ")
        for at, word in enumerate(words):
            rest = words[:at], words[at + 1:]
            for new in ([], [word, word], [word.upper() + "x"], [word + "\t"], ["\t" + word], [word, ""], ["", word],
                        ["+" + word], ["0" + word], ["0x5"], ["5_0"], ["5.0"], ["1e1"], ["--5"], ["-"], ["- 5"],
                        [str(FAR + 1)], [str(-FAR - 1)], ["-0"], ["00"], ["-05"], ["\u0665"], ["x"], ["in"],
                        ["9" * 5000]):
                if new != ["in"] or word != "in":
                    self.refuse_each(row, " ".join(rest[0] + new + rest[1]))

    def test_the_marks_of_a_pane(self):
        self.refuse_each("from -3 4 hidden", "from -3 4", "from -3 4 ", "from -3 4 seen", "from -3 4 Hidden",
                         "from -3 4 hidden ", "from -3 4 hidden hidden", "from -3 4 hidden shown", "from -3 4 hiddenx",
                         "from -3 4 1", "from -3 4 True", "from -3 4\thidden", "from -3 4 hidde")

    def test_numbers_of_panes(self):
        self.refuse_each("pane 5 in", "pane 2 in", "pane 1 in", "pane 7 in", "pane 8 in", "pane 0 in", "pane -5 in",
                         "pane 6 in", "pane 9 in")
        self.refuse_each("pane 8 in", "pane 7 in", "pane 3 in", "pane 9 in", "pane 10 in", "pane 8  in")
        one = "next 1 3\nsheet 0 1 1\n|x\npane 1 in 0 sheet 0 at 0 0 size 1 1 from 0 0 shown\norder 0 1\n"
        self.assertTrue(is_right(one))
        for number in (0, -1, 3, 4, FAR):
            text = one.replace("pane 1", f"pane {number}").replace("order 0 1", f"order 0 {number}")
            self.assertFalse(is_right(text))
            self.refuse(text)
        text = one.replace("pane 1", "pane 2").replace("order 0 1", "order 0 2")
        self.assertEqual(read_panes(text).all_panes(), [2])

    def test_panes_that_do_not_rise(self):
        rows = TEXT.split("\n")
        self.refuse("\n".join(rows[:6] + [rows[7], rows[6]] + rows[8:]))
        self.refuse("\n".join(rows[:8] + [rows[9], rows[8]] + rows[10:]))
        self.refuse("\n".join(rows[:7] + [rows[6]] + rows[7:]))

    def test_sheets_that_are_not_there(self):
        self.refuse_each("in 0 sheet 0 at 10", "in 0 sheet 2 at 10", "in 0 sheet -1 at 10", f"in 0 sheet {FAR} at 10",
                         f"in 0 sheet {-FAR} at 10")
        self.refuse("next 0 2\npane 1 in 0 sheet 0 at 0 0 size 1 1 from 0 0 shown\norder 0 1\n")

    def test_sizes_of_panes(self):
        self.refuse_each("size 1 2", "size 0 2", "size 1 0", "size -1 2", "size 1 -2", "size 0 0", f"size {-FAR} 2",
                         f"size 1 {FAR + 1}")
        text = self.other("size 1 2", f"size {FAR} 1")
        self.assertEqual(read_panes(text).told(5)[4:6], (FAR, 1))

    def test_parents_that_are_not_there(self):
        for parent in (1, 3, 9, -1, FAR, -FAR):
            text = self.other("pane 2 in 7", f"pane 2 in {parent}")
            self.refuse(text)
            self.refuse(self.other("order 7 8 2\n", f"order 7 8\norder {parent} 2\n", text), parent)
            self.refuse(self.other("order 7 8 2\n", "order 7 8\n", text), parent)
            self.refuse(self.other("order 0 7 5\n", f"order {parent} 2\norder 0 7 5\n", text), parent)

    def test_orders(self):
        self.refuse_each("order 0 7 5", "order 0 7", "order 0 5", "order 0", "order 0 ", "order", "order 0 7 5 5",
                         "order 0 7 7", "order 0 7 5 2", "order 0 7 5 3", "order 0 7 5 0", "order 0 7 5 -1",
                         "order 0 7 5 x", "order 0 7 2", "order 5 7 5", "order 1 7 5", "order -1 7 5", "orders 0 7 5",
                         "order 0 0 7 5", "order 0  7 5", "order 0 7 5 ", " order 0 7 5", "order 0 7 05",
                         "order 0 +7 5", "order -0 7 5", "order 00 7 5", "order\t0 7 5", "order 0 7\t5", "order 0 7,5",
                         "Order 0 7 5", f"order 0 7 5 {FAR + 1}", f"order 0 7 {FAR}")
        self.refuse_each("order 7 8 2", "order 7 8", "order 7 2", "order 7", "order 7 8 2 2", "order 8 8 2",
                         "order 2 8", "order 7 8 2 5", "order 7 8 2 7", "order 7 8\norder 7 2", "order 7 8 2\norder 8 ",
                         "order 7 8 2\norder 8", "order 7 8 2\norder 8 2", "order 7 8 2\norder 8 8",
                         "order 7 8 2\norder 9 3")

    def test_orders_out_of_their_order(self):
        self.refuse(self.other("order 0 7 5\norder 7 8 2\n", "order 7 8 2\norder 0 7 5\n"))
        self.refuse(self.other("order 0 7 5\norder 7 8 2\n", "order 0 7 5\norder 0 7 5\norder 7 8 2\n"))
        self.refuse(self.other("order 0 7 5\norder 7 8 2\n", ""))

    def test_panes_that_lie_round_in_one_another(self):
        head = "next 1 9\nsheet 0 1 1\n|x\n"
        for parents in ({1: 1}, {1: 2, 2: 1}, {1: 2, 2: 3, 3: 1}, {1: 0, 2: 3, 3: 2}, {1: 0, 2: 1, 3: 3},
                        {1: 2, 2: 1, 3: 1, 4: 0}, {1: 0, 2: 4, 4: 6, 6: 8, 8: 2}):
            panes = "".join(f"pane {pane} in {parents[pane]} sheet 0 at 0 0 size 1 1 from 0 0 shown\n"
                            for pane in parents)
            orders = "".join("order " + " ".join(str(number) for number in [parent] +
                                                 [pane for pane in parents if parents[pane] == parent]) + "\n"
                             for parent in sorted(set(parents.values())))
            self.assertFalse(is_right(head + panes + orders))
            self.refuse(head + panes + orders)
            self.refuse(head + panes)

    def test_the_end(self):
        for text in (TEXT[:-1], TEXT + "\n", TEXT + " ", TEXT + "\t", TEXT + "x", TEXT[:-1] + " \n", TEXT + TEXT,
                     "\n" + TEXT, " " + TEXT, TEXT.replace("\n", "\r\n"), TEXT.replace("\n", ""), TEXT[:-2]):
            self.refuse(text)

    def test_one_sign_less_more_or_other_anywhere(self):
        for at in range(len(TEXT) + 1):
            texts = [TEXT[:at] + TEXT[at + 1:]]
            for sign in " \t\n0-+|x1":
                texts += [TEXT[:at] + sign + TEXT[at:], TEXT[:at] + sign + TEXT[at + 1:]]
            for text in texts:
                if is_right(text):
                    self.assertEqual(show_panes(read_panes(text)), text)
                else:
                    self.refuse(text)

    def test_a_huge_number_of_sheets_or_rows(self):
        for text in (f"next {FAR} 1\n", f"next {FAR} 1\nsheet 0 1 1\n|x\n", f"next 1 1\nsheet 0 1 {FAR}\n|x\n",
                     f"next 1 1\nsheet 0 {FAR} 1\n|x\n", "next 0 " + "9" * 100000 + "\n", "next 0 -" + "9" * 61 + "\n"):
            self.refuse(text, text[:60])

    def test_what_is_refused_leaves_others(self):
        read = read_panes(TEXT)
        self.refuse(TEXT + "x\n")
        self.assertEqual(show_panes(read), TEXT)


class ManyTexts(WritingTest):
    WORDS = ["0", "1", "2", "3", "7", "-1", "-0", "00", "+1", "61", "60", "", "order", "pane", "sheet", "next", "in",
             "at", "from", "size", "shown", "hidden", "|", "|a", "x", "\t", str(FAR), str(-FAR), str(FAR + 1),
             "1\n", "\n"]

    def change(self, chance, text):
        """The text with a change or two by chance."""
        for _ in range(chance.choice([1, 1, 1, 2])):
            mark = chance.choice([" ", "\n"])
            parts = text.split(mark)
            at, to = chance.randrange(len(parts)), chance.randrange(len(parts))
            kind = chance.choice(["drop", "twice", "swap", "other", "other", "more"])
            if kind == "drop":
                del parts[at]
            elif kind == "twice":
                parts.insert(to, parts[at])
            elif kind == "swap":
                parts[at], parts[to] = parts[to], parts[at]
            elif kind == "other":
                parts[at] = chance.choice(self.WORDS + [parts[to]])
            else:
                parts.insert(at, chance.choice(self.WORDS))
            text = mark.join(parts)
        return text

    def test_deeds_of_every_kind_read_back(self):
        for number in range(60):
            chance = random.Random(number)
            self.setUp()
            for _ in range(40):
                some_deed(chance, self.panes)
            self.assertTrue(is_right(show_panes(self.panes)))
            read = self.hold(self.panes)
            # The same deeds at both lead to the same, but the count of writings.
            seed, written = chance.random(), self.sheets.written()
            for panes in (read, self.panes):
                chance = random.Random(seed)
                for _ in range(20):
                    some_deed(chance, panes)
            self.assertEqual(show_panes(read), show_panes(self.panes))
            self.assertEqual(read.sheets_kept().written(), self.sheets.written() - written)

    def test_changed_texts(self):
        told = Counter()
        for number in range(60):
            chance = random.Random(number)
            self.setUp()
            for _ in range(30):
                some_deed(chance, self.panes)
            text = show_panes(self.panes)
            for _ in range(100):
                changed = self.change(chance, text)
                told[is_right(changed)] += 1
                if is_right(changed):
                    self.assertEqual(show_panes(read_panes(changed)), changed)
                else:
                    self.refuse(changed)
        self.assertGreater(told[True], 100)
        self.assertGreater(told[False], 1000)


if __name__ == "__main__":
    unittest.main()
