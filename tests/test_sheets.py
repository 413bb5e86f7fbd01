"""[8], [9] and [10]: sheets, what is written and filled on them, and what is told of them."""

import inspect
import random
import unittest

from cells import FAR, HUGE, cells_of, cells_of_box, is_plain, region_by_rows
from panelook.errors import NoCount, NoSheet, NoSize
from panelook.regions import is_region, region_of_box
from panelook.sets import bounds
from panelook.sheets import Sheets

ARGUMENTS = {"make": ["w", "h", "sign"], "write": ["sheet", "x", "y", "text"],
             "fill": ["sheet", "x", "y", "w", "h", "sign"], "size_of": ["sheet"], "sign_at": ["sheet", "x", "y"],
             "rows_of": ["sheet"], "written": [], "met": ["sheet", "since"], "how_many": []}

SIGNS = [chr(code) for code in range(32, 127) if code != 37]


def state(sheets):
    """All that is told of the sheets, but the signs beyond their cells."""
    each = [(sheets.size_of(sheet), sheets.rows_of(sheet),
             [sheets.met(sheet, since) for since in range(sheets.written() + 1)])
            for sheet in range(sheets.how_many())]
    return sheets.how_many(), sheets.written(), each


class Model:
    """Sheets held cell by cell, with the cells that each deed met."""

    def __init__(self):
        self.sizes = []
        self.signs = {}
        self.deeds = []

    def make(self, w, h, sign):
        self.sizes.append((w, h))
        for x, y in cells_of_box((0, 0, w, h)):
            self.signs[len(self.sizes) - 1, x, y] = sign

    def put(self, sheet, signs):
        here = {place: sign for place, sign in signs.items() if (sheet, *place) in self.signs}
        self.signs.update({(sheet, *place): sign for place, sign in here.items()})
        self.deeds.append((sheet, set(here)))

    def write(self, sheet, x, y, text):
        self.put(sheet, {(x + at, y): sign for at, sign in enumerate(text)})

    def fill(self, sheet, x, y, w, h, sign):
        self.put(sheet, {place: sign for place in cells_of_box((x, y, w, h))})

    def rows(self, sheet):
        w, h = self.sizes[sheet]
        return ["".join(self.signs[sheet, x, y] for x in range(w)) for y in range(h)]

    def met(self, sheet, since):
        return set().union(*[cells for number, cells in self.deeds[since:] if number == sheet])


class SheetsTest(unittest.TestCase):
    def setUp(self):
        self.sheets = Sheets()

    def page(self, w=5, h=3, sign="."):
        return self.sheets.make(w, h, sign)

    def hold(self, sheet, rows, since, cells):
        """Holds the rows, and the cells met behind the first so many, against those told."""
        self.assertEqual(self.sheets.rows_of(sheet), rows)
        self.assertEqual(self.sheets.met(sheet, since), region_by_rows(cells))


class Interface(SheetsTest):
    def test_each_method_stands_in_the_class_itself(self):
        for name, arguments in ARGUMENTS.items():
            self.assertIn(name, vars(Sheets))
            self.assertEqual(list(inspect.signature(getattr(self.sheets, name)).parameters), arguments, name)
        self.assertEqual(list(inspect.signature(Sheets).parameters), [])

    def test_kinds(self):
        self.assertIs(type(self.page(2, 2)), int)
        self.assertIsNone(self.sheets.write(0, 0, 0, "ab"))
        self.assertIsNone(self.sheets.fill(0, 0, 0, 1, 1, "c"))
        self.assertIs(type(self.sheets.size_of(0)), tuple)
        self.assertTrue(is_plain(self.sheets.size_of(0)))
        self.assertIs(type(self.sheets.rows_of(0)), list)
        self.assertTrue(all(type(row) is str for row in self.sheets.rows_of(0)))
        self.assertIs(type(self.sheets.sign_at(0, 0, 0)), str)
        self.assertIs(type(self.sheets.written()), int)
        self.assertIs(type(self.sheets.how_many()), int)
        for since in range(3):
            self.assertTrue(is_plain(self.sheets.met(0, since)))
            self.assertIs(type(self.sheets.met(0, since)), tuple)
            self.assertIs(is_region(self.sheets.met(0, since)), True)


class Make(SheetsTest):
    def test_no_sheet_at_first(self):
        self.assertEqual(self.sheets.how_many(), 0)
        self.assertEqual(self.sheets.written(), 0)

    def test_numbers_from_0_on(self):
        self.assertEqual([self.page(at + 1, 2) for at in range(5)], [0, 1, 2, 3, 4])
        self.assertEqual(self.sheets.how_many(), 5)
        self.assertEqual([self.sheets.size_of(sheet) for sheet in range(5)], [(at + 1, 2) for at in range(5)])

    def test_the_sign_it_is_made_with(self):
        for number, sign in enumerate(SIGNS):
            self.assertEqual(self.page(3, 2, sign), number)
            self.assertEqual(self.sheets.rows_of(number), [sign * 3, sign * 3])
            self.assertEqual(self.sheets.sign_at(number, 2, 1), sign)
        self.assertEqual(self.sheets.written(), 0)

    def test_sizes_at_the_limits(self):
        for w, h in ((1, 1), (1, 60), (60, 1), (60, 60)):
            sheet = self.page(w, h, "a")
            self.assertEqual(self.sheets.size_of(sheet), (w, h))
            self.assertEqual(self.sheets.rows_of(sheet), ["a" * w] * h)

    def test_sizes_beyond_the_limits(self):
        self.page()
        before = state(self.sheets)
        for wrong in (0, -1, -2, 61, 62, -60, FAR, -FAR, HUGE, -HUGE):
            for w, h in ((wrong, 5), (5, wrong), (wrong, wrong), (wrong, 1), (60, wrong)):
                with self.assertRaises(NoSize):
                    self.sheets.make(w, h, "a")
                self.assertEqual(state(self.sheets), before)
        self.assertEqual(self.page(), 1)

    def test_a_refused_one_takes_no_number(self):
        with self.assertRaises(NoSize):
            self.page(0, 0)
        with self.assertRaises(NoSheet):
            self.sheets.size_of(0)
        self.assertEqual(self.page(), 0)

    def test_making_counts_no_writing_and_meets_no_cell(self):
        self.page()
        self.sheets.write(0, 0, 0, "a")
        self.page()
        self.assertEqual(self.sheets.written(), 1)
        self.assertEqual(self.sheets.met(1, 0), ())
        self.assertEqual(self.sheets.met(1, 1), ())


class Write(SheetsTest):
    def test_ordinary(self):
        self.page()
        self.sheets.write(0, 1, 1, "abc")
        self.hold(0, [".....", ".abc.", "....."], 0, {(1, 1), (2, 1), (3, 1)})

    def test_the_whole_row(self):
        self.page()
        self.sheets.write(0, 0, 2, "abcde")
        self.hold(0, [".....", ".....", "abcde"], 0, {(x, 2) for x in range(5)})

    def test_every_sign(self):
        self.page(60, 2)
        self.sheets.write(0, 0, 0, "".join(SIGNS[:60]))
        self.sheets.write(0, 0, 1, "".join(SIGNS[60:]))
        self.assertEqual(self.sheets.rows_of(0), ["".join(SIGNS[:60]), "".join(SIGNS[60:]).ljust(60, ".")])

    def test_no_sign(self):
        self.page()
        for x, y in ((0, 0), (2, 1), (5, 3), (-1, -1), (FAR, -FAR), (-FAR, FAR), (-FAR, 0), (FAR, 0)):
            before = self.sheets.written()
            self.sheets.write(0, x, y, "")
            self.assertEqual(self.sheets.written(), before + 1)
        self.hold(0, ["....."] * 3, 0, set())

    def test_ahead_of_the_first_column(self):
        self.page()
        self.sheets.write(0, -2, 0, "abc")
        self.hold(0, ["c....", ".....", "....."], 0, {(0, 0)})
        self.sheets.write(0, -3, 1, "abc")
        self.hold(0, ["c....", ".....", "....."], 1, set())
        self.sheets.write(0, -1, 2, "abcdef")
        self.hold(0, ["c....", ".....", "bcdef"], 2, {(x, 2) for x in range(5)})
        self.sheets.write(0, -4, 1, "abc")
        self.hold(0, ["c....", ".....", "bcdef"], 3, set())

    def test_over_the_last_column(self):
        self.page()
        self.sheets.write(0, 4, 0, "abc")
        self.hold(0, ["....a", ".....", "....."], 0, {(4, 0)})
        self.sheets.write(0, 5, 1, "abc")
        self.sheets.write(0, 6, 1, "abc")
        self.hold(0, ["....a", ".....", "....."], 1, set())

    def test_over_both_ends(self):
        self.page()
        self.sheets.write(0, -3, 1, "0123456789ab")
        self.hold(0, [".....", "34567", "....."], 0, {(x, 1) for x in range(5)})

    def test_rows_above_and_below(self):
        self.page()
        for y in (-1, -2, -3, 3, 4, FAR, -FAR, HUGE, -HUGE):
            self.sheets.write(0, 0, y, "abcde")
        self.hold(0, ["....."] * 3, 0, set())
        self.assertEqual(self.sheets.written(), 9)

    def test_far_off(self):
        self.page()
        for x in (FAR, -FAR, HUGE, -HUGE):
            for y in (0, 2, FAR, -FAR):
                self.sheets.write(0, x, y, "abc")
        self.hold(0, ["....."] * 3, 0, set())
        self.assertEqual(self.sheets.written(), 16)

    def test_a_long_text(self):
        self.page(60, 1)
        self.sheets.write(0, -50000, 0, "ab" * 50000)
        self.hold(0, ["ab" * 30], 0, {(x, 0) for x in range(60)})

    def test_one_row_alone(self):
        self.page(2, 2)
        self.sheets.write(0, 0, 0, "ab")
        self.assertEqual(self.sheets.rows_of(0), ["ab", ".."])


class Fill(SheetsTest):
    def test_ordinary(self):
        self.page()
        self.sheets.fill(0, 1, 0, 2, 2, "a")
        self.hold(0, [".aa..", ".aa..", "....."], 0, {(1, 0), (2, 0), (1, 1), (2, 1)})

    def test_all_of_it(self):
        self.page()
        self.sheets.fill(0, 0, 0, 5, 3, "a")
        self.hold(0, ["aaaaa"] * 3, 0, cells_of_box((0, 0, 5, 3)))

    def test_sizes_below_1(self):
        self.page()
        for w, h in ((0, 0), (0, 2), (2, 0), (-1, 2), (2, -1), (-2, -2), (-FAR, 3), (3, -FAR), (0, FAR), (FAR, 0)):
            for x, y in ((1, 1), (0, 0), (4, 2), (5, 3), (FAR, FAR), (-FAR, -FAR)):
                self.sheets.fill(0, x, y, w, h, "a")
        self.hold(0, ["....."] * 3, 0, set())
        self.assertEqual(self.sheets.written(), 60)

    def test_over_each_edge(self):
        for box in ((-2, 1, 3, 1), (4, 1, 3, 1), (1, -2, 2, 3), (1, 2, 2, 3), (-1, -1, 2, 2), (4, 2, 5, 5),
                    (-3, 1, 11, 1), (2, -4, 1, 11)):
            sheet = self.page()
            since = self.sheets.written()
            self.sheets.fill(sheet, *box, "a")
            cells = cells_of_box(box) & cells_of_box((0, 0, 5, 3))
            self.assertTrue(cells)
            rows = ["".join("a" if (x, y) in cells else "." for x in range(5)) for y in range(3)]
            self.hold(sheet, rows, since, cells)

    def test_beside(self):
        self.page()
        boxes = [(-2, 0, 2, 3), (5, 0, 2, 3), (0, -2, 5, 2), (0, 3, 5, 2), (-3, 0, 2, 3), (6, 0, 2, 3), (0, -3, 5, 2),
                 (0, 4, 5, 2), (-1, -1, 1, 1), (5, 3, 1, 1)]
        for box in boxes:
            self.sheets.fill(0, *box, "a")
        self.hold(0, ["....."] * 3, 0, set())
        self.assertEqual(self.sheets.written(), len(boxes))

    def test_far_off_and_great(self):
        self.page()
        for x in (FAR, -FAR, HUGE, -HUGE):
            self.sheets.fill(0, x, 0, 9, 3, "a")
            self.sheets.fill(0, 0, x, 5, 9, "a")
            self.sheets.fill(0, x, x, 9, 9, "a")
        self.hold(0, ["....."] * 3, 0, set())
        self.sheets.fill(0, -FAR, 1, FAR + 2, FAR, "b")
        self.hold(0, [".....", "bb...", "bb..."], 12, {(0, 1), (1, 1), (0, 2), (1, 2)})
        self.sheets.fill(0, 3, -FAR, FAR, FAR + 1, "c")
        self.hold(0, ["...cc", "bb...", "bb..."], 13, {(3, 0), (4, 0)})
        self.sheets.fill(0, -FAR, -FAR, 2 * FAR, 2 * FAR, "d")
        self.hold(0, ["ddddd"] * 3, 14, cells_of_box((0, 0, 5, 3)))

    def test_every_box_about_a_small_sheet(self):
        for x in range(-2, 4):
            for y in range(-2, 4):
                for w in range(-1, 5):
                    for h in range(-1, 5):
                        sheets, model = Sheets(), Model()
                        for each in (sheets, model):
                            each.make(2, 2, ".")
                            each.fill(0, x, y, w, h, "a")
                        self.assertEqual(sheets.rows_of(0), model.rows(0), (x, y, w, h))
                        self.assertEqual(sheets.met(0, 0), region_by_rows(model.met(0, 0)), (x, y, w, h))


class SignAt(SheetsTest):
    def test_at_each_cell_and_beyond(self):
        self.page(3, 2, "a")
        self.sheets.write(0, 0, 0, "bcd")
        self.sheets.write(0, 0, 1, "efg")
        signs = {(0, 0): "b", (1, 0): "c", (2, 0): "d", (0, 1): "e", (1, 1): "f", (2, 1): "g"}
        for x in range(-4, 7):
            for y in range(-4, 7):
                self.assertEqual(self.sheets.sign_at(0, x, y), signs.get((x, y), " "), (x, y))

    def test_far_off(self):
        self.page(60, 60, "a")
        for x, y in ((FAR, 0), (-FAR, 0), (0, FAR), (0, -FAR), (FAR, FAR), (-FAR, -FAR), (HUGE, 0), (0, -HUGE)):
            self.assertEqual(self.sheets.sign_at(0, x, y), " ")

    def test_what_lies_beyond_cannot_be_written(self):
        self.page(2, 2, "a")
        self.sheets.write(0, -1, 0, "bbbb")
        self.sheets.write(0, 0, 2, "bb")
        self.sheets.fill(0, -3, -3, 9, 9, "c")
        for x, y in ((-1, 0), (2, 0), (0, 2), (0, -1), (2, 2), (-1, -1)):
            self.assertEqual(self.sheets.sign_at(0, x, y), " ")


class Count(SheetsTest):
    def test_each_deed_counts_one_though_it_met_no_cell(self):
        self.page()
        self.page()
        deeds = [lambda: self.sheets.write(0, 0, 0, "a"), lambda: self.sheets.write(1, 0, 0, "abc"),
                 lambda: self.sheets.write(0, 0, 0, ""), lambda: self.sheets.write(1, 90, 0, "a"),
                 lambda: self.sheets.fill(0, 0, 0, 2, 2, "b"), lambda: self.sheets.fill(1, 0, 0, 0, 9, "b"),
                 lambda: self.sheets.fill(0, FAR, FAR, 3, 3, "b"), lambda: self.sheets.write(0, 0, 0, "a")]
        for at, deed in enumerate(deeds):
            self.assertEqual(self.sheets.written(), at)
            deed()
            self.assertEqual(self.sheets.written(), at + 1)

    def test_questions_count_nothing(self):
        self.page()
        self.sheets.write(0, 0, 0, "a")
        self.sheets.size_of(0), self.sheets.rows_of(0), self.sheets.sign_at(0, 0, 0), self.sheets.met(0, 0)
        self.sheets.how_many()
        self.assertEqual(self.sheets.written(), 1)

    def test_the_refused_count_nothing(self):
        self.page()
        for sheet in (1, -1):
            with self.assertRaises(NoSheet):
                self.sheets.write(sheet, 0, 0, "a")
            with self.assertRaises(NoSheet):
                self.sheets.fill(sheet, 0, 0, 1, 1, "a")
        self.assertEqual(self.sheets.written(), 0)


class Met(SheetsTest):
    def test_for_each_count_from_0_to_the_one_now(self):
        self.page()
        self.sheets.write(0, 0, 0, "ab")
        self.sheets.fill(0, 3, 1, 2, 2, "c")
        self.sheets.write(0, 9, 9, "x")
        self.sheets.write(0, 1, 0, "d")
        self.assertEqual([self.sheets.met(0, since) for since in range(5)],
                         [((0, 1, ((0, 2),)), (1, 3, ((3, 5),))), ((0, 1, ((1, 2),)), (1, 3, ((3, 5),))),
                          ((0, 1, ((1, 2),)),), ((0, 1, ((1, 2),)),), ()])

    def test_where_the_signs_stayed_as_they_were(self):
        self.page(5, 3, ".")
        self.sheets.write(0, 1, 1, "...")
        self.assertEqual(self.sheets.met(0, 0), region_of_box(1, 1, 3, 1))
        self.sheets.fill(0, 0, 0, 2, 2, ".")
        self.assertEqual(self.sheets.met(0, 1), region_of_box(0, 0, 2, 2))
        self.assertEqual(self.sheets.rows_of(0), ["....."] * 3)

    def test_where_the_signs_went_and_came_again(self):
        self.page()
        self.sheets.write(0, 0, 0, "a")
        self.sheets.write(0, 0, 0, ".")
        self.assertEqual(self.sheets.met(0, 0), region_of_box(0, 0, 1, 1))
        self.assertEqual(self.sheets.met(0, 1), region_of_box(0, 0, 1, 1))
        self.assertEqual(self.sheets.met(0, 2), ())

    def test_met_twice_is_met_behind_the_last_time_alone_too(self):
        self.page()
        self.sheets.fill(0, 0, 0, 5, 3, "a")
        self.sheets.fill(0, 1, 1, 1, 1, "b")
        self.assertEqual(self.sheets.met(0, 0), region_of_box(0, 0, 5, 3))
        self.assertEqual(self.sheets.met(0, 1), region_of_box(1, 1, 1, 1))

    def test_of_another_sheet(self):
        self.page()
        self.page(3, 3)
        self.sheets.write(0, 0, 0, "ab")
        self.sheets.write(1, 1, 1, "c")
        self.sheets.fill(0, 4, 2, 1, 1, "d")
        self.assertEqual([self.sheets.met(0, since) for since in range(4)],
                         [((0, 1, ((0, 2),)), (2, 3, ((4, 5),))), ((2, 3, ((4, 5),)),), ((2, 3, ((4, 5),)),), ()])
        self.assertEqual([self.sheets.met(1, since) for since in range(4)],
                         [region_of_box(1, 1, 1, 1), region_of_box(1, 1, 1, 1), (), ()])

    def test_one_form(self):
        self.page(4, 4)
        for x, y in ((0, 0), (2, 0), (0, 1), (2, 1), (1, 0), (1, 1), (3, 3)):
            self.sheets.write(0, x, y, "a")
        self.assertEqual(self.sheets.met(0, 0), ((0, 2, ((0, 3),)), (3, 4, ((3, 4),))))
        self.assertEqual(self.sheets.met(0, 4), ((0, 2, ((1, 2),)), (3, 4, ((3, 4),))))

    def test_no_count(self):
        self.page()
        for deeds in range(3):
            before = state(self.sheets)
            for since in (-1, deeds + 1, -2, deeds + 2, FAR, -FAR, HUGE, -HUGE):
                with self.assertRaises(NoCount):
                    self.sheets.met(0, since)
            self.assertEqual(state(self.sheets), before)
            self.sheets.write(0, deeds, 0, "a")

    def test_a_count_that_is_not_reached_is_once_it_is(self):
        self.page()
        with self.assertRaises(NoCount):
            self.sheets.met(0, 1)
        self.sheets.write(0, 0, 0, "a")
        self.assertEqual(self.sheets.met(0, 1), ())

    def test_at_a_new_one(self):
        self.page()
        self.assertEqual(self.sheets.met(0, 0), ())

    def test_no_sheet_goes_first(self):
        self.page()
        for sheet in (1, -1):
            for since in (-1, 1, 0):
                with self.assertRaises(NoSheet):
                    self.sheets.met(sheet, since)

    def test_a_great_sheet(self):
        self.page(60, 60)
        self.sheets.fill(0, 0, 0, 60, 60, "a")
        self.assertEqual(self.sheets.met(0, 0), region_of_box(0, 0, 60, 60))
        self.assertEqual(bounds(self.sheets.met(0, 0)), (0, 0, 60, 60))


class NoSheetThere(SheetsTest):
    def test_each_deed_and_question(self):
        asks = [lambda sheet: self.sheets.write(sheet, 0, 0, "a"), lambda sheet: self.sheets.write(sheet, 0, 0, ""),
                lambda sheet: self.sheets.fill(sheet, 0, 0, 1, 1, "a"),
                lambda sheet: self.sheets.fill(sheet, 0, 0, 0, 0, "a"), self.sheets.size_of,
                lambda sheet: self.sheets.sign_at(sheet, 0, 0), lambda sheet: self.sheets.sign_at(sheet, -1, -1),
                self.sheets.rows_of, lambda sheet: self.sheets.met(sheet, 0)]
        for many in range(4):
            before = state(self.sheets)
            for ask in asks:
                for sheet in (many, many + 1, -1, -many, -many - 1, FAR, -FAR, HUGE, -HUGE):
                    if sheet or not many:
                        with self.assertRaises(NoSheet):
                            ask(sheet)
            self.assertEqual(state(self.sheets), before)
            self.page()


class SideBySide(SheetsTest):
    def test_two_stores(self):
        other = Sheets()
        self.page(2, 2, "a")
        self.assertEqual(other.how_many(), 0)
        other.make(3, 1, "b")
        self.sheets.write(0, 0, 0, "x")
        self.assertEqual(other.written(), 0)
        self.assertEqual(other.rows_of(0), ["bbb"])
        other.fill(0, 0, 0, 9, 9, "c")
        other.make(1, 1, "d")
        self.assertEqual(self.sheets.rows_of(0), ["xa", "aa"])
        self.assertEqual((self.sheets.written(), self.sheets.how_many()), (1, 1))
        self.assertEqual((other.written(), other.how_many()), (1, 2))
        with self.assertRaises(NoSheet):
            self.sheets.size_of(1)

    def test_told_lists_are_the_askers_own(self):
        self.page(2, 2, "a")
        rows = self.sheets.rows_of(0)
        rows[0] = "zz"
        rows.append("more")
        self.assertEqual(self.sheets.rows_of(0), ["aa", "aa"])
        self.assertEqual(self.sheets.sign_at(0, 0, 0), "a")
        kept = self.sheets.rows_of(0)
        self.sheets.fill(0, 0, 0, 2, 2, "b")
        self.assertEqual(kept, ["aa", "aa"])
        self.sheets.rows_of(0).clear()
        self.assertEqual(self.sheets.rows_of(0), ["bb", "bb"])
        self.assertIsNot(self.sheets.rows_of(0), self.sheets.rows_of(0))

    def test_what_is_told_may_be_handed_in(self):
        self.page(4, 2, "a")
        self.sheets.write(0, 1, 1, self.sheets.rows_of(0)[0])
        self.sheets.fill(0, *bounds(self.sheets.met(0, 0)), self.sheets.sign_at(0, -1, -1))
        copy = self.sheets.make(*self.sheets.size_of(0), self.sheets.sign_at(0, 0, 0))
        self.assertEqual(self.sheets.rows_of(0), ["aaaa", "a   "])
        self.assertEqual(self.sheets.rows_of(copy), ["aaaa", "aaaa"])
        self.assertEqual(self.sheets.met(0, self.sheets.written()), ())


class ManyDeeds(unittest.TestCase):
    def deed(self, chance, sizes):
        sheet = chance.randrange(len(sizes))
        x, y = chance.randint(-5, 14), chance.randint(-2, 9)
        if chance.random() < 0.5:
            text = "".join(chance.choice(SIGNS) for _ in range(chance.randint(0, 12)))
            return lambda each: each.write(sheet, x, y, text)
        w, h, sign = chance.randint(-1, 8), chance.randint(-1, 6), chance.choice(SIGNS)
        return lambda each: each.fill(sheet, x, y, w, h, sign)

    def test_against_a_model(self):
        chance = random.Random(10)
        for _ in range(40):
            sheets, model = Sheets(), Model()
            for _ in range(chance.randint(1, 3)):
                w, h, sign = chance.randint(1, 12), chance.randint(1, 8), chance.choice(SIGNS)
                sheets.make(w, h, sign)
                model.make(w, h, sign)
            for _ in range(chance.randint(1, 25)):
                deed = self.deed(chance, model.sizes)
                deed(sheets)
                deed(model)
            self.assertEqual(sheets.written(), len(model.deeds))
            for sheet in range(sheets.how_many()):
                self.assertEqual(sheets.rows_of(sheet), model.rows(sheet))
                for since in range(sheets.written() + 1):
                    region = sheets.met(sheet, since)
                    self.assertEqual(cells_of(region), model.met(sheet, since))
                    self.assertEqual(region, region_by_rows(model.met(sheet, since)))


if __name__ == "__main__":
    unittest.main()
