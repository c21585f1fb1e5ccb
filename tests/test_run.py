"""Promises [5] and [1]: what run tells, how it ends, and whose the lists are."""

import copy
import unittest

from longwork.plain import run

from samples import ALL_WORDS, counted

NUM = ("num", 1)
MARK = ("mark",)


class Ends(unittest.TestCase):
    def test_an_empty_program(self):
        self.assertEqual(run((2, 3, ()), []), ([[], [], []], [], ("end",), [0, 0], 0))
        self.assertEqual(run((1, 1, ()), [1, 2]), ([[]], [], ("end",), [0], 0))

    def test_the_kinds_of_what_is_told(self):
        told = run(ALL_WORDS, [5])
        self.assertEqual(told, ([[], [9]], [9], ("end",), [1, 9], 12))
        self.assertEqual([thing.__class__ for thing in told], [list, list, tuple, list, int])
        self.assertEqual([thing.__class__ for thing in told[0]], [list, list])

    def test_end(self):
        for many in (1, 2, 60):
            self.assertEqual(run((1, 1, (MARK,) * many), []), ([[]], [], ("end",), [0], many))

    def test_faults(self):
        for row, word in ((("take", 0), "none"), (("get", 0, 0, NUM), "place"), (("put", 0, NUM, NUM), "place")):
            self.assertEqual(run((1, 1, (MARK, row, ("send", NUM))), []), ([[]], [], ("fault", word), [0], 1))
        told = run((1, 1, (("add", 0, NUM), ("go", 0))), [])
        self.assertEqual(told, ([[1] * 40], [], ("fault", "full"), [0], 80))

    def test_a_fault_in_the_last_row(self):
        self.assertEqual(run((1, 1, (MARK, ("take", 0))), []), ([[]], [], ("fault", "none"), [0], 1))

    def test_long(self):
        self.assertEqual(run((1, 1, (("go", 0),)), []), ([[]], [], ("long",), [0], 1000))
        self.assertEqual(run((1, 1, (MARK, ("go", 0))), []), ([[]], [], ("long",), [0], 1000))
        told = run((1, 1, (("send", ("num", 3)), ("go", 0))), [])
        self.assertEqual(told, ([[]], [3] * 500, ("long",), [0], 1000))

    # The rounds come to 4 * 249 + 2 = 998 rows.
    def test_the_end_behind_just_1000_rows(self):
        self.assertEqual(run(counted(249), []), ([[]], [], ("end",), [249, 0], 998))
        self.assertEqual(run(counted(249, MARK), []), ([[]], [], ("end",), [249, 0], 999))
        self.assertEqual(run(counted(249, MARK, MARK), []), ([[]], [], ("end",), [249, 0], 1000))
        self.assertEqual(run(counted(249, MARK, MARK, MARK), []), ([[]], [], ("long",), [249, 0], 1000))

    def test_the_last_row_of_the_1000_is_done(self):
        send = ("send", ("num", 7))
        self.assertEqual(run(counted(249, MARK, send, send), []), ([[]], [7], ("long",), [249, 0], 1000))

    def test_the_1000_rows_are_ahead_of_a_fault(self):
        for row, word in ((("take", 0), "none"), (("get", 0, 0, NUM), "place"), (("put", 0, NUM, NUM), "place")):
            self.assertEqual(run(counted(249, MARK, row), []), ([[]], [], ("fault", word), [249, 0], 999))
            self.assertEqual(run(counted(249, MARK, MARK, row), []), ([[]], [], ("long",), [249, 0], 1000))

    def test_what_was_done_ahead_of_a_fault_stays(self):
        rows = (("add", 1, ("num", 4)), ("send", ("num", 5)), ("set", 1, ("num", 6)), ("take", 0), ("send", NUM))
        self.assertEqual(run((2, 2, rows), []), ([[], [4]], [5], ("fault", "none"), [0, 6], 3))

    def test_names_and_files_in_their_number(self):
        for names in range(1, 9):
            for files in range(1, 5):
                rows = tuple(("set", k, ("num", 10 + k)) for k in range(names))
                rows += tuple(("add", k, ("num", 20 + k)) for k in range(files))
                told = run((names, files, rows), [])
                self.assertEqual(told[0], [[20 + k] for k in range(files)])
                self.assertEqual(told[3], [10 + k for k in range(names)])


def lists_of(told):
    return [told[0], *told[0], told[1], told[3]]


class WhoseTheListsAre(unittest.TestCase):
    def test_what_is_handed_in_stays_as_it_was(self):
        program = copy.deepcopy(ALL_WORDS)
        handed = [5, 6, 7]
        run(program, handed)
        self.assertEqual(program, ALL_WORDS)
        self.assertEqual(handed, [5, 6, 7])

    def test_what_is_told_may_be_changed(self):
        for program, handed in ((ALL_WORDS, [5]), ((3, 4, ()), []), ((1, 2, (("add", 1, NUM), ("take", 0))), [])):
            told = run(program, handed)
            before = copy.deepcopy(told)
            for one in lists_of(told):
                one.append(99)
            self.assertEqual(run(program, handed), before)

    def test_no_two_lists_are_the_same_one(self):
        handed = [5]
        for program in (ALL_WORDS, (3, 4, ()), (1, 4, (("cut", 0, ("num", 0)), ("cut", 1, ("num", 0))))):
            found = lists_of(run(program, handed)) + lists_of(run(program, handed)) + [handed]
            self.assertEqual(len({id(one) for one in found}), len(found))

    def test_what_was_handed_in_may_be_changed_later(self):
        handed = [5, 6]
        told = run(ALL_WORDS, handed)
        before = copy.deepcopy(told)
        handed.clear()
        self.assertEqual(told, before)
        self.assertEqual(run(ALL_WORDS, handed)[2], ("fault", "none"))

    def test_a_refusal_changes_nothing_either(self):
        handed = [5, True, 6]
        with self.assertRaises(ValueError):
            run(ALL_WORDS, handed)
        self.assertEqual(handed, [5, True, 6])
        self.assertIs(handed[1], True)
        self.assertEqual(run(ALL_WORDS, [5]), run(ALL_WORDS, [5]))


if __name__ == "__main__":
    unittest.main()
