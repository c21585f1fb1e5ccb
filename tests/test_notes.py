"""Promise [12]: how programs are written, and what is read of texts."""

import random
import unittest

from longwork.errors import BadProgram, BadText
from longwork.notes import read, written

from samples import ALL_WORDS, ONE, TAKING, TAKING_WITH_MARKS, some_program

MARK = ("mark",)
NAME = ("name", 2)
# Each row beside its text, in a program of 3 names, 2 files and 3 rows.
ROWS = (
    (("set", 2, ("num", 0)), "set n2 0"),
    (("set", 0, NAME), "set n0 n2"),
    (("take", 1), "take n1"),
    (("get", 2, 1, ("num", 10006)), "get n2 1 10006"),
    (("get", 0, 0, ("name", 0)), "get n0 0 n0"),
    (("size", 2, 1), "size n2 1"),
    (("add", 1, ("num", 7)), "add 1 7"),
    (("add", 0, NAME), "add 0 n2"),
    (("put", 1, ("num", 4), NAME), "put 1 4 n2"),
    (("put", 0, NAME, ("num", 4)), "put 0 n2 4"),
    (("cut", 1, ("name", 1)), "cut 1 n1"),
    (("send", ("num", 12)), "send 12"),
    (("send", NAME), "send n2"),
    (("go", 0), "go 0"),
    (("go", 3), "go 3"),
    (("unless", 1, 3), "unless n1 3"),
    (("mark",), "mark"),
    (("send", ("sum", NAME, ONE)), "send sum n2 1"),
    (("send", ("diff", ONE, NAME)), "send diff 1 n2"),
    (("send", ("less", ONE, ("num", 2))), "send less 1 2"),
    (("set", 1, ("sum", ("diff", ONE, NAME), ("less", ("num", 3), ("num", 4)))), "set n1 sum diff 1 n2 less 3 4"),
    (("send", ("sum", ONE, ("less", NAME, ("num", 5)))), "send sum 1 less n2 5"),
    (("send", ("less", ("diff", NAME, ("num", 5)), ONE)), "send less diff n2 5 1"),
    (("put", 1, ("sum", ONE, NAME), ("num", 9)), "put 1 sum 1 n2 9"),
    (("put", 1, ("num", 9), ("sum", ONE, NAME)), "put 1 9 sum 1 n2"),
    (("put", 0, ("diff", ONE, ("num", 2)), ("less", ("num", 3), ("num", 4))), "put 0 diff 1 2 less 3 4"),
)
# No row by its words, wherever it stands behind the first.
NO_ROWS = (
    # none at all, other words, and blanks
    "", " ", "  ", "set", "work 3 2", "work", "num 1", "sum 1 2", "5", "n1", "Mark", "MARK", "marks", "mar", "end",
    " mark", "mark ", "mark  ", " send 1", "send 1 ", "send  1", "set n1  5", "set  n1 5", "take n1 ",
    # a word too many, and too few
    "mark 1", "mark n1", "mark mark", "take", "take n1 1", "take n1 n1", "set n1", "set n1 5 6", "set n1 n2 n2", "get n1 0",
    "get n1", "get", "get n1 0 1 2", "size n1", "size", "size n1 0 0", "add 0", "add", "add 0 1 2", "put 0 1", "put 0",
    "put", "put 0 1 2 3", "cut 0", "cut", "cut 0 1 2", "send", "send 1 2", "go", "go 1 2", "unless n1", "unless",
    "unless n1 0 0", "unless 0",
    # parts too short, too long, or of other words
    "send sum", "send sum 1", "send sum 1 2 3", "send sum sum 1 2", "send sum 1 sum 2", "send diff", "send less 1",
    "send 1 sum 2", "send 1 2 sum", "put 0 sum 1 2", "put 0 1 sum 2", "put 0 sum 1 2 3 4", "put 0 1 2 sum", "put sum 1 2 3",
    "send num 1", "send name 1", "send mul 1 2", "send Sum 1 2", "send SUM 1 2", "send sum1 2", "send (sum 1 2)",
    "send sum(1 2)", "send sum 1, 2", "send x", "send none", "send mark", "send send 1", "send set", "send -", "send num",
    "set n1 sum n1", "get n1 0 sum 1", "cut 0 less 1",
    # numbers that are none, needless figures, and too many
    "send 00", "send 01", "send 07", "send 007", "send 00000", "send 000000", "send 100000", "send 123456",
    "send 1234567890123", "send +1", "send -1", "send -0", "send 1.0", "send 1e3", "send 0x1", "send 1_0", "send 1,000",
    "send 1n", "send n 1", "go 00", "go 01", "go -1", "go +1", "go 100000", "add 00 1", "add 01 1", "add 100000 1",
    "send sum 01 1", "send sum 1 01", "put 0 01 1", "put 0 1 01", "unless n1 00", "size n0 00",
    # names that are none
    "take n", "take N1", "take n01", "take n00", "take n100000", "take n-1", "take n+1", "take nn1", "take n1n", "take n1.",
    "take name", "take name 1", "send n", "send n01", "send n00", "send n100000", "send N1", "send nn", "send sum n 1",
    "send sum n1 n", "set n 1", "set n01 1", "unless n 1", "unless n00 1", "get n 0 1", "size n 0",
    # a name where a number stands, and the other way round
    "take 1", "set 1 1", "get 1 0 1", "get n1 n0 1", "size 1 0", "size n1 n0", "add n0 1", "put n0 1 1", "cut n0 1", "go n1",
    "unless 1 1", "unless n1 n1", "unless 1 n1",
)
NO_HEADS = (
    "", " ", "work", "work ", "work 1", "work 1 ", "work 1 1 ", "work 1 1 1", " work 1 1", "work  1 1", "work 1  1",
    "Work 1 1", "WORK 1 1", "works 1 1", "wor 1 1", "1 1", "1 1 work", "work n1 1", "work 1 n1", "work n1 n1", "work 01 1",
    "work 1 01", "work 00 1", "work 1 00", "work 100000 1", "work 1 100000", "work -1 1", "work 1 -1", "work +1 1",
    "work 1 +1", "work one 1", "work 1,1", "work,1 1", "mark", "send 1", "work 1 1 mark", "work work 1", "work 1 work",
)


class Written(unittest.TestCase):
    def test_without_rows(self):
        self.assertEqual(written((1, 1, ())), "work 1 1")
        self.assertEqual(written((8, 4, ())), "work 8 4")

    def test_each_row(self):
        for row, text in ROWS:
            self.assertEqual(written((3, 2, (row, MARK, MARK))), f"work 3 2\n{text}\nmark\nmark")
            self.assertEqual(written((3, 2, (MARK, MARK, row))), f"work 3 2\nmark\nmark\n{text}")

    def test_all_words(self):
        self.assertEqual(written(ALL_WORDS), "\n".join((
            "work 2 2", "take n0", "add 0 n0", "add 1 sum n0 1", "put 1 0 9", "get n1 1 0", "size n0 0", "cut 0 0",
            "send n1", "mark", "unless n0 11", "go 11", "set n0 less 0 1")))

    def test_what_is_no_program(self):
        for program, told in ((None, (-1, "shape")), ("work 1 1", (-1, "shape")), ((1, 1, []), (-1, "shape")),
                              ((0, 1, ()), (-1, "names")), ((1, 5, ()), (-1, "files")), ((1, 1, (None,)), (0, "shape")),
                              ((1, 1, (MARK, ("take", 1))), (1, "name")), ((1, 1, (MARK,) * 61), (60, "many")),
                              ((1, 1, (("send", ("num", True)),)), (0, "part"))):
            with self.assertRaises(BadProgram) as caught:
                written(program)
            self.assertEqual((caught.exception.number, caught.exception.why), told)


def is_plain(thing):
    return thing.__class__ in (int, str) or thing.__class__ is tuple and all(map(is_plain, thing))


class Read(unittest.TestCase):
    def test_without_rows(self):
        self.assertEqual(read("work 1 1"), (1, 1, ()))
        self.assertEqual(read("work 8 4"), (8, 4, ()))

    def test_each_row(self):
        for row, text in ROWS:
            self.assertEqual(read(f"work 3 2\n{text}\nmark\nmark"), (3, 2, (row, MARK, MARK)))
            self.assertEqual(read(f"work 3 2\nmark\nmark\n{text}"), (3, 2, (MARK, MARK, row)))

    def test_figures(self):
        for number in (0, 9, 10, 99, 100, 999, 1000, 9999, 10000, 10006):
            self.assertEqual(read(f"work 1 1\nsend {number}"), (1, 1, (("send", ("num", number)),)))

    def test_what_is_written_is_read_to_the_same(self):
        chance = random.Random(3)
        programs = [some_program(chance) for case in range(300)] + [ALL_WORDS, TAKING, TAKING_WITH_MARKS]
        for program in programs + [(8, 4, (MARK,) * 60), (8, 4, (("take", 7), ("size", 7, 3)))]:
            text = written(program)
            self.assertEqual(read(text), program)
            self.assertEqual(written(read(text)), text)
            self.assertTrue(is_plain(read(text)))


class BadTexts(unittest.TestCase):
    def bad(self, text, row):
        with self.assertRaises(BadText, msg=repr(text)) as caught:
            read(text)
        self.assertEqual(caught.exception.row, row, text)
        self.assertNotIsInstance(caught.exception.row, bool)

    def test_the_first_row(self):
        for head in NO_HEADS:
            self.bad(head, 0)
            self.bad(head + "\nmark", 0)
            self.bad(head + "\n\n", 0)

    def test_other_rows(self):
        for row in NO_ROWS:
            self.bad(f"work 3 2\n{row}", 1)
            self.bad(f"work 3 2\nmark\n{row}\nmark", 2)
            self.bad(f"work 3 2\nmark\nmark\n{row}", 3)

    def test_an_empty_text(self):
        self.bad("", 0)
        self.bad("\n", 0)
        self.bad("\nwork 1 1", 0)

    def test_a_line_end_behind_the_last_row(self):
        self.bad("work 1 1\n", 1)
        self.bad("work 1 1\nmark\n", 2)
        self.bad("work 1 1\nmark\n\n", 2)
        self.bad("work 1 1\n\nmark", 1)

    def test_the_first_of_several(self):
        self.bad("work 3 2\nmark\nsend\nsend", 2)
        self.bad("work 3 2\nsend\nmark 1", 1)
        self.bad("work 3\nsend", 0)

    def test_a_text_is_refused_ahead_of_a_program(self):
        self.bad("work 0 0\ntake n9\ngo 99\nsend", 3)
        self.bad("work 1 1\nsend 10007\nsend -1", 2)
        self.bad("work 1 1\nsend sum sum sum 1 1 1 1\nmark ", 2)
        self.bad("work 1 1" + "\nmark" * 60 + "\n", 61)
        self.bad("work 1 1" + "\nmark" * 99 + "\nmarks", 100)

    def test_no_text(self):
        for text in (None, True, False, 0, 1, [], ["work 1 1"], (), ("work 1 1",), (1, 1, ())):
            self.bad(text, 0)

    def test_very_deep_parts(self):
        self.bad("work 1 1\nsend " + "sum " * 5000 + "1 " * 4999 + "1", 1)
        self.bad("work 1 1\nsend " + "sum " * 5000 + "1 " * 5001 + "1", 1)


class NoPrograms(unittest.TestCase):
    """Rows that are so by their words, but no program."""

    def bad(self, text, number, why):
        with self.assertRaises(BadProgram, msg=text) as caught:
            read(text)
        self.assertEqual((caught.exception.number, caught.exception.why), (number, why), text)

    def test_names_and_files(self):
        for names in (0, 9, 10, 99999):
            self.bad(f"work {names} 1", -1, "names")
            self.bad(f"work {names} 9\ntake n9", -1, "names")
        for files in (0, 5, 10, 99999):
            self.bad(f"work 1 {files}", -1, "files")

    def test_numbers_beyond_their_bounds(self):
        for row, why in (("take n3", "name"), ("take n99999", "name"), ("set n3 10007", "name"), ("get n0 2 0", "file"),
                         ("get n3 2 n3", "name"), ("size n0 99999", "file"), ("add 2 1", "file"), ("put 2 1 1", "file"),
                         ("cut 2 1", "file"), ("go 3", "row"), ("go 99999", "row"), ("unless n3 3", "name"),
                         ("unless n2 3", "row"), ("send 10007", "part"), ("send 99999", "part"), ("send n3", "part"),
                         ("put 0 1 10007", "part"), ("put 0 n3 1", "part"), ("send sum 1 n3", "part"),
                         ("send sum diff 1 10007 1", "part")):
            self.bad(f"work 3 2\n{row}\nmark", 0, why)
            self.bad(f"work 3 2\nmark\n{row}", 1, why)

    def test_the_first_of_several(self):
        self.bad("work 1 1\nmark\ngo 9\ntake n1", 1, "row")

    def test_parts_too_deep(self):
        self.assertEqual(read("work 1 1\nsend sum sum 1 2 3")[2], (("send", ("sum", ("sum", ONE, ("num", 2)), ("num", 3))),))
        for deep in (3, 4, 60, 5000):
            self.bad("work 1 1\nmark\nsend " + "sum " * deep + "1 " * deep + "1", 1, "part")
            self.bad("work 1 1\nmark\nsend " + "sum 1 " * deep + "1", 1, "part")

    def test_a_row_too_many(self):
        self.assertEqual(read("work 1 1" + "\nmark" * 60), (1, 1, (MARK,) * 60))
        for many in (61, 62, 200):
            self.bad("work 1 1" + "\nmark" * many, 60, "many")
        self.bad("work 1 1" + "\nmark" * 60 + "\ntake n9", 60, "many")
        self.bad("work 1 1\ntake n9" + "\nmark" * 70, 0, "name")


if __name__ == "__main__":
    unittest.main()
