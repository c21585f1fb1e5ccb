"""Promises [2] and [3]: which programs are let by, and how others are refused."""

import unittest

from longwork.errors import BadProgram
from longwork.judging import judged
from longwork.notes import written
from longwork.plain import run
from longwork.works import Work

NUM = ("num", 1)
PLACES = {
    "set": ("name", "part"),
    "take": ("name",),
    "get": ("name", "file", "part"),
    "size": ("name", "file"),
    "add": ("file", "part"),
    "put": ("file", "part", "part"),
    "cut": ("file", "part"),
    "send": ("part",),
    "go": ("row",),
    "unless": ("name", "row"),
    "mark": (),
}
WORDS = ("sum", "diff", "less")
GOOD = {"name": 0, "file": 0, "row": 0, "part": NUM}
MARK = ("mark",)
NO_NUMBERS = (
    -1, -10**9, 10**9, 10**30, True, False, None, "", "0", "1", "num",
    [], [0], [1], (), (0,), (1,), ("num", 0),
)
NO_TEXTS = (-1, 0, 1, True, False, None, [], ["num"], ["sum"], ["set"], (), ("num",), ("sum",), ("set",))
OTHER_WORDS = ("", " ", "SET", "Set", "set ", "num", "name", "sum", "diff", "less", "end", "long", "many", "row")


def nested(word, deep, left):
    """A part of so many things, one within another, growing at one side."""
    part = NUM
    for step in range(deep - 1):
        part = (word, part, NUM) if left else (word, NUM, part)
    return part


def good_parts(names):
    found = [("num", 0), ("num", 10006), ("name", 0), ("name", names - 1)]
    for word in WORDS:
        for left in (True, False):
            found += [nested(word, deep, left) for deep in (2, 3)]
        pair = (word, ("name", names - 1), ("num", 10006))
        found.append((word, pair, pair))
    return found


def bad_singles(names):
    found = [("num", n) for n in NO_NUMBERS + (10007, 10008)]
    found += [("name", n) for n in NO_NUMBERS + (names, names + 1)]
    found += [("num",), ("name",), ("num", 1, 1), ("name", 0, 0), ("num", NUM, NUM), ("name", NUM, NUM)]
    found += [("num", 1, 1, 1), ["num", 1], ["name", 0], ("number", 1), ("n", 0), ("", 1)]
    found += [(word, 1) for word in NO_TEXTS + WORDS]
    found += [-1, 0, 1, 10007, True, False, None, "", "num", "n0", [], (), (NUM,), (NUM, NUM), [NUM]]
    return found


def bad_parts(names):
    found = bad_singles(names)
    for word in WORDS:
        for bad in bad_singles(names):
            found += [(word, bad, NUM), (word, NUM, bad)]
            found += [(word, (word, NUM, bad), NUM), (word, NUM, (word, bad, NUM))]
        found += [(word,), (word, NUM), (word, NUM, NUM, NUM), [word, NUM, NUM]]
        found += [nested(word, deep, left) for deep in (4, 5, 60) for left in (True, False)]
        found.append((word, (word, NUM, (word, NUM, NUM)), (word, NUM, ("less", NUM, ("sum", NUM, NUM)))))
    found += [(word, NUM, NUM) for word in NO_TEXTS + ("mul", "", "SUM", "set", "add", "more")]
    return found


def bad_places(kind, names, files, many):
    if kind == "part":
        return bad_parts(names)
    bound = {"name": names, "file": files, "row": many + 1}[kind]
    return NO_NUMBERS + (bound, bound + 1)


def row_of(word, at=None, place=None):
    places = [GOOD[kind] for kind in PLACES[word]]
    if at is not None:
        places[at] = place
    return (word, *places)


# All that take a program refuse it likewise, and first: what is behind it is wrong in each, or there is none.
CALLS = ((run, (None,)), (Work, (None, None, None)), (judged, (None, None, None, None)), (written, ()))


class Programs(unittest.TestCase):
    def good(self, program):
        try:
            self.assertEqual(len(run(program, [])), 5)
            self.assertIsNone(Work(program, [], "on", 0).end())
            self.assertIsNone(judged(program, [], "back", 0, []))
            self.assertIsInstance(written(program), str)
        except BadProgram as e:
            self.fail(f"{program} was refused: {e.number}, {e.why}")

    def bad(self, program, number, why):
        for call, behind in CALLS:
            try:
                call(program, *behind)
            except BadProgram as e:
                self.assertEqual((e.number, e.why), (number, why), program)
                self.assertNotIsInstance(e.number, bool)
            else:
                self.fail(f"{program} was let by")


class GoodPrograms(Programs):
    def test_names_and_files_at_their_bounds(self):
        for names in range(1, 9):
            for files in range(1, 5):
                self.good((names, files, ()))

    def test_rows_at_their_bounds(self):
        for many in (0, 1, 59, 60):
            self.good((1, 1, (MARK,) * many))

    def test_each_word_with_names_and_files_at_their_bounds(self):
        for word in PLACES:
            for names, files in ((1, 1), (8, 4), (1, 4), (8, 1)):
                self.good((names, files, (row_of(word),)))
                for at, kind in enumerate(PLACES[word]):
                    top = {"name": names - 1, "file": files - 1, "row": 1, "part": NUM}[kind]
                    self.good((names, files, (row_of(word, at, top),)))

    def test_each_part_at_each_place(self):
        for names in (1, 8):
            for part in good_parts(names):
                for word in PLACES:
                    for at, kind in enumerate(PLACES[word]):
                        if kind == "part":
                            self.good((names, 1, (row_of(word, at, part),)))

    def test_a_row_is_a_number_up_to_how_many_there_are(self):
        for many in (1, 2, 59, 60):
            for row in (0, many - 1, many):
                self.good((1, 1, (("go", row),) + (MARK,) * (many - 1)))
                self.good((1, 1, (("unless", 0, row),) + (MARK,) * (many - 1)))

    def test_a_part_may_stand_in_another_one_twice(self):
        pair = ("sum", NUM, NUM)
        self.good((1, 1, (("set", 0, ("diff", pair, pair)),)))


class BadShapes(Programs):
    def test_no_tuple_of_three(self):
        for program in (None, True, False, 0, 3, -1, "", "abc", [], (), (1,), (1, 1), (1, 1, (), ()),
                        [1, 1, ()], [1, 1, []], ((1, 1, ()),), "11(", [[1, 1, ()]]):
            self.bad(program, -1, "shape")

    def test_rows_that_are_no_tuple(self):
        for rows in (None, True, False, 0, 1, "", "mark", [], [MARK], [[]]):
            self.bad((1, 1, rows), -1, "shape")
            self.bad((0, 0, rows), -1, "shape")

    def test_names(self):
        for names in NO_NUMBERS + (0, 9, 10):
            self.bad((names, 1, ()), -1, "names")
            self.bad((names, 0, (None,)), -1, "names")

    def test_files(self):
        for files in NO_NUMBERS + (0, 5, 6):
            self.bad((1, files, ()), -1, "files")
            self.bad((8, files, (None,) * 61), -1, "files")


class BadRows(Programs):
    def at_each_row(self, row, why):
        for ahead in (0, 1, 3):
            self.bad((2, 2, (MARK,) * ahead + (row, MARK)), ahead, why)

    def test_rows_that_are_no_tuple(self):
        for row in (None, True, False, 0, 1, -1, "", "mark", [], ["mark"], ["set", 0, NUM]):
            self.at_each_row(row, "shape")

    def test_another_word(self):
        for word in NO_TEXTS + OTHER_WORDS:
            for behind in range(5):
                for place in (0, NUM):
                    self.at_each_row((word,) + (place,) * behind, "shape")
        self.at_each_row((), "shape")

    def test_another_count_behind_the_word(self):
        for word in PLACES:
            row = row_of(word)
            for at in range(1, len(row)):
                self.at_each_row(row[:at], "shape")
            for more in (0, NUM, None, ()):
                self.at_each_row(row + (more,), "shape")
                self.at_each_row(row + (more, more), "shape")

    def test_a_list_for_a_row(self):
        for word in PLACES:
            self.at_each_row(list(row_of(word)), "shape")

    def test_each_place_of_each_word(self):
        for word in PLACES:
            for at, kind in enumerate(PLACES[word]):
                for names, files in ((1, 1), (3, 2), (8, 4)):
                    for place in bad_places(kind, names, files, 2):
                        bad = row_of(word, at, place)
                        self.bad((names, files, (bad, MARK)), 0, kind)
                        self.bad((names, files, (MARK, bad)), 1, kind)

    def test_names_that_are_files_or_files_that_are_names(self):
        self.bad((1, 4, (("size", 3, 0),)), 0, "name")
        self.bad((4, 1, (("size", 0, 3),)), 0, "file")
        self.bad((1, 4, (("send", ("name", 3)),)), 0, "part")

    def test_a_row_beyond_how_many_there_are(self):
        for many in (1, 2, 59, 60):
            for row in (many + 1, many + 2, 10006):
                self.bad((1, 1, (("go", row),) + (MARK,) * (many - 1)), 0, "row")
                self.bad((1, 1, (MARK,) * (many - 1) + (("unless", 0, row),)), many - 1, "row")

    def test_rows_that_are_never_come_to_are_refused_too(self):
        self.bad((1, 1, (("go", 2), ("take", 1))), 1, "name")


class FirstWrong(Programs):
    def test_the_first_of_two_wrong_rows(self):
        self.bad((1, 1, (MARK, ("take", 1), ("add", 1, NUM), ())), 1, "name")
        self.bad((1, 1, (MARK, ("add", 1, NUM), ("take", 1))), 1, "file")
        self.bad((1, 1, ((), ("take", 1))), 0, "shape")
        self.bad((1, 1, (("go", 9), ())), 0, "row")
        self.bad((1, 1, (("send", 9), None)), 0, "part")

    def test_the_first_of_two_wrong_places(self):
        for word, kinds in PLACES.items():
            for at, kind in enumerate(kinds):
                row = row_of(word)[:at + 1] + (None,) * (len(kinds) - at)
                self.bad((1, 1, (row,)), 0, kind)

    def test_the_shape_is_ahead_of_the_places(self):
        self.bad((1, 1, (("get", 9, 9),)), 0, "shape")
        self.bad((1, 1, (("go", -1, -1),)), 0, "shape")

    def test_too_many_rows(self):
        for many in (61, 62, 100, 3000):
            self.bad((1, 1, (MARK,) * many), 60, "many")

    def test_row_60_is_one_too_many_whatever_it_is(self):
        for row in (None, (), [], ("take", 1), ("other",), ("go", 999)):
            self.bad((1, 1, (MARK,) * 60 + (row,)), 60, "many")
            self.bad((1, 1, (MARK,) * 61 + (row,)), 60, "many")

    def test_a_row_ahead_is_refused_ahead_of_too_many(self):
        self.bad((1, 1, (MARK,) * 59 + (("take", 1),) + (MARK,) * 5), 59, "name")
        self.bad((1, 1, (None,) + (MARK,) * 60), 0, "shape")
        self.bad((1, 1, (("go", 62),) + (MARK,) * 60), 0, "row")


if __name__ == "__main__":
    unittest.main()
