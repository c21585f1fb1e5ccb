"""Promises [7] and [8]: what each move does and tells, by hand."""

import unittest

from longwork.plain import run
from longwork.works import Work

from samples import FALL, ONE, counted, move_on

END = ("ends", ("end",))
LONG = ("ends", ("long",))
RESTS = ("rests",)
MARK = ("mark",)
SEND = ("send", ("num", 7))
SET = ("set", 0, ("sum", ("name", 0), ONE))
ADD = ("add", 0, ONE)
WAYS = ("back", "on")
# All that a row may do: within, to a file, out, and a mark.
MIXED = (2, 1, (
    ("take", 0),
    ("add", 0, ("name", 0)),
    ("send", ("name", 0)),
    MARK,
    ("put", 0, ("num", 0), ("num", 9)),
    ("get", 1, 0, ("num", 0)),
    ("cut", 0, ("num", 0)),
))


def state(work):
    return (work.files(), work.sent(), work.stands(), work.kept(), work.end(), work.steps())


class Logs(unittest.TestCase):
    def follow(self, work, log):
        """Each entry as it is told, one behind another."""
        for number, entry in enumerate(log):
            told = FALL if entry == FALL else work.move()
            if entry == FALL:
                self.assertIsNone(work.fall())
            self.assertEqual(told, entry, f"entry {number}")

    def follow_states(self, work, table):
        """Each entry as it is told, and behind it all that is told of the work."""
        for number, (entry, *behind) in enumerate(table):
            self.follow(work, [entry])
            self.assertEqual(state(work), tuple(behind), f"behind entry {number}, {entry}")


class WithoutFalls(Logs):
    def test_back(self):
        self.follow_states(Work(MIXED, [5], "back", 0), [
            (("does", 0), [[]], [], (1, [5, 0]), (0, 0), None, 1),
            (("notes", 1), [[]], [], (1, [5, 0]), (0, 1), None, 1),
            (("does", 1), [[5]], [], (2, [5, 0]), (0, 1), None, 2),
            (("sends", 2), [[5]], [5], (2, [5, 0]), (0, 1), None, 2),
            (("does", 2), [[5]], [5], (3, [5, 0]), (0, 1), None, 3),
            (("marks", 4), [[5]], [5], (4, [5, 0]), (4, 0), None, 4),
            (("notes", 4), [[5]], [5], (4, [5, 0]), (4, 1), None, 4),
            (("does", 4), [[9]], [5], (5, [5, 0]), (4, 1), None, 5),
            (("does", 5), [[9]], [5], (6, [5, 9]), (4, 1), None, 6),
            (("notes", 6), [[9]], [5], (6, [5, 9]), (4, 2), None, 6),
            (("does", 6), [[]], [5], (7, [5, 9]), (4, 2), None, 7),
            (END, [[]], [5], (7, [5, 9]), (4, 2), ("end",), 7),
            (RESTS, [[]], [5], (7, [5, 9]), (4, 2), ("end",), 7),
            (RESTS, [[]], [5], (7, [5, 9]), (4, 2), ("end",), 7),
        ])

    def test_on(self):
        self.follow_states(Work(MIXED, [5], "on", 0), [
            (("notes", 0), [[]], [], (0, [0, 0]), (0, 1), None, 0),
            (("does", 0), [[]], [], (1, [5, 0]), (0, 1), None, 1),
            (("notes", 1), [[]], [], (1, [5, 0]), (0, 2), None, 1),
            (("does", 1), [[5]], [], (2, [5, 0]), (0, 2), None, 2),
            (("notes", 2), [[5]], [], (2, [5, 0]), (0, 3), None, 2),
            (("sends", 2), [[5]], [5], (2, [5, 0]), (0, 3), None, 2),
            (("does", 2), [[5]], [5], (3, [5, 0]), (0, 3), None, 3),
            (("marks", 4), [[5]], [5], (4, [5, 0]), (4, 0), None, 4),
            (("notes", 4), [[5]], [5], (4, [5, 0]), (4, 1), None, 4),
            (("does", 4), [[9]], [5], (5, [5, 0]), (4, 1), None, 5),
            (("notes", 5), [[9]], [5], (5, [5, 0]), (4, 2), None, 5),
            (("does", 5), [[9]], [5], (6, [5, 9]), (4, 2), None, 6),
            (("notes", 6), [[9]], [5], (6, [5, 9]), (4, 3), None, 6),
            (("does", 6), [[]], [5], (7, [5, 9]), (4, 3), None, 7),
            (END, [[]], [5], (7, [5, 9]), (4, 3), ("end",), 7),
            (RESTS, [[]], [5], (7, [5, 9]), (4, 3), ("end",), 7),
        ])

    def test_an_empty_program(self):
        for way in WAYS:
            for often in (0, 1, 99):
                self.follow_states(Work((1, 2, ()), [], way, often), [
                    (END, [[], []], [], (0, [0]), (0, 0), ("end",), 0),
                    (RESTS, [[], []], [], (0, [0]), (0, 0), ("end",), 0),
                ])

    # By "back" a row that only reads a file, or that goes, is done at once, and only the first three below are noted.
    def test_back_notes_only_rows_that_change_a_file(self):
        rows = (ADD, ("put", 0, ("num", 0), ONE), ("cut", 0, ("num", 9)), SET, ("take", 0), ("get", 0, 0, ("num", 0)),
                ("size", 0, 0), ("go", 8), ("unless", 0, 9), ("unless", 0, 10))
        log = [("notes", 0), ("does", 0), ("notes", 1), ("does", 1), ("notes", 2), ("does", 2)]
        log += [("does", row) for row in range(3, 10)]
        self.follow(Work((1, 1, rows), [3], "back", 0), log + [END])

    def test_on_notes_each_row_but_marks(self):
        rows = (ADD, ("put", 0, ("num", 0), ONE), ("cut", 0, ("num", 9)), SET, ("take", 0), ("get", 0, 0, ("num", 0)),
                ("size", 0, 0), ("go", 8), ("unless", 0, 9), ("unless", 0, 10))
        log = []
        for row in range(10):
            log += [("notes", row), ("does", row)]
        self.follow(Work((1, 1, rows), [3], "on", 0), log + [END])

    def test_rows_that_go(self):
        rows = (("unless", 0, 3), SEND, SEND, ("go", 5), SEND, MARK)
        self.follow(Work((1, 1, rows), [], "back", 0), [("does", 0), ("does", 3), ("marks", 6), END])
        log = [("notes", 0), ("does", 0), ("notes", 3), ("does", 3), ("marks", 6), END]
        self.follow(Work((1, 1, rows), [], "on", 0), log)


class Marks(Logs):
    def test_a_mark_as_the_last_row(self):
        for way in WAYS:
            work = Work((1, 1, (MARK,)), [], way, 0)
            self.follow_states(work, [
                (("marks", 1), [[]], [], (1, [0]), (1, 0), None, 1),
                (FALL, [[]], [], None, (1, 0), None, 1),
                (("rises", 1), [[]], [], (1, [0]), (1, 0), None, 1),
                (END, [[]], [], (1, [0]), (1, 0), ("end",), 1),
            ])

    def test_a_mark_as_the_target_of_a_go(self):
        rows = (("go", 2), SEND, MARK, ("go", 5), SEND)
        self.follow(Work((1, 1, rows), [], "back", 0),
                    [("does", 0), ("marks", 3), ("does", 3), FALL, ("rises", 3), ("does", 3), END])
        self.follow(Work((1, 1, rows), [], "on", 0),
                    [("notes", 0), ("does", 0), ("marks", 3), ("notes", 3), ("does", 3), FALL, ("rises", 3),
                     ("again", 3), END])

    def test_a_mark_drops_all_notes(self):
        work = Work((1, 1, (ADD, ADD, MARK, ADD)), [], "back", 0)
        self.follow(work, [("notes", 0), ("does", 0), ("notes", 1), ("does", 1)])
        self.assertEqual(work.kept(), (0, 2))
        self.follow(work, [("marks", 3)])
        self.assertEqual(work.kept(), (3, 0))
        self.follow(work, [FALL, ("rises", 3), ("notes", 3), ("does", 3), FALL, ("back", 0), ("rises", 3)])
        self.assertEqual(state(work), ([[1, 1]], [], (3, [0]), (3, 0), None, 4))

    def test_a_mark_holds_all_that_is_within(self):
        rows = (("take", 0), ("take", 1), SEND, MARK, ("take", 0), SEND)
        work = Work((2, 1, rows), [5, 6, 8], "back", 0)
        self.follow(work, [("does", 0), ("does", 1), ("sends", 2), ("does", 2), ("marks", 4), ("does", 4)])
        self.assertEqual(work.stands(), (5, [8, 6]))
        self.follow(work, [FALL, ("rises", 4)])
        self.assertEqual(work.stands(), (4, [5, 6]))
        self.follow(work, [("does", 4)])
        self.assertEqual(work.stands(), (5, [8, 6]))
        self.follow(work, [("sends", 5), ("does", 5), END])
        self.assertEqual(work.sent(), [7, 7])

    def test_two_marks_in_turn(self):
        for way in WAYS:
            self.follow(Work((1, 1, (MARK, MARK)), [], way, 0), [("marks", 1), ("marks", 2), END])

    def test_a_mark_is_kept_again_by_a_loop(self):
        rows = (MARK, ("add", 0, ("num", 4)), ("go", 0))
        work = Work((1, 1, rows), [], "back", 0)
        self.follow(work, [("marks", 1), ("notes", 1), ("does", 1), ("does", 2), ("marks", 1), ("notes", 1),
                           ("does", 1), FALL, ("back", 0), ("rises", 1)])
        self.assertEqual(state(work), ([[4]], [], (1, [0]), (1, 0), None, 5))


class Often(Logs):
    ROWS = (SET, ADD, SET, MARK, SET, SET)

    def test_back_0(self):
        log = [("does", 0), ("notes", 1), ("does", 1), ("does", 2), ("marks", 4), ("does", 4), ("does", 5), END]
        for often in (0, 4, 9, 99):
            self.follow(Work((1, 1, self.ROWS), [], "back", often), log)

    def test_back_1(self):
        log = [("does", 0), ("marks", 1), ("notes", 1), ("does", 1), ("marks", 2), ("does", 2), ("marks", 3),
               ("marks", 4), ("does", 4), ("marks", 5), ("does", 5), END]
        self.follow(Work((1, 1, self.ROWS), [], "back", 1), log)

    def test_back_2(self):
        log = [("does", 0), ("notes", 1), ("does", 1), ("marks", 2), ("does", 2), ("marks", 4), ("does", 4),
               ("does", 5), END]
        self.follow(Work((1, 1, self.ROWS), [], "back", 2), log)

    # The third row done stands ahead of a mark: often is looked at first, and the mark keeps another one.
    def test_back_3(self):
        log = [("does", 0), ("notes", 1), ("does", 1), ("does", 2), ("marks", 3), ("marks", 4), ("does", 4),
               ("does", 5), END]
        self.follow(Work((1, 1, self.ROWS), [], "back", 3), log)

    def test_on(self):
        for often, marks in ((0, ()), (1, (1, 2, 3, 5)), (2, (2,)), (3, (3,)), (4, ()), (9, ()), (99, ())):
            log = []
            for row in range(6):
                log += [("marks", row)] if row in marks else []
                log += [("marks", 4)] if row == 3 else [("notes", row), ("does", row)]
            self.follow(Work((1, 1, self.ROWS), [], "on", often), log + [END])

    def test_a_mark_by_often_is_no_row(self):
        for way in WAYS:
            work = Work((1, 1, (SET, SET, SET)), [], way, 1)
            move_on(work)
            self.assertEqual((work.steps(), work.kept()[0]), (3, 2))

    def test_what_a_mark_by_often_keeps(self):
        self.follow_states(Work((1, 1, (ADD, SET, ADD)), [], "back", 2), [
            (("notes", 0), [[]], [], (0, [0]), (0, 1), None, 0),
            (("does", 0), [[1]], [], (1, [0]), (0, 1), None, 1),
            (("does", 1), [[1]], [], (2, [1]), (0, 1), None, 2),
            (("marks", 2), [[1]], [], (2, [1]), (2, 0), None, 2),
            (("notes", 2), [[1]], [], (2, [1]), (2, 1), None, 2),
            (FALL, [[1]], [], None, (2, 1), None, 2),
            (("back", 0), [[1]], [], None, (2, 0), None, 2),
            (("rises", 2), [[1]], [], (2, [1]), (2, 0), None, 2),
        ])

    def test_often_9_and_99(self):
        for often, marks in ((9, [9, 18, 27, 36, 45, 54]), (99, [])):
            work = Work((1, 1, (SET,) * 60), [], "back", often)
            told = [entry for entry in move_on(work) if entry[0] == "marks"]
            self.assertEqual(told, [("marks", row) for row in marks])
        work = Work((1, 1, (SET,) * 50 + (("go", 0),)), [], "on", 99)
        told = [entry for entry in move_on(work) if entry[0] == "marks"]
        # Row 51 * k + r comes up behind 51 * k + r rows.
        self.assertEqual(told, [("marks", rows % 51) for rows in range(99, 1000, 99)])

    def test_the_rows_since_the_mark_are_counted_anew_when_it_rises(self):
        work = Work((1, 1, (SET,) * 5), [], "back", 3)
        self.follow(work, [("does", 0), ("does", 1), FALL, ("rises", 0), ("does", 0), ("does", 1), ("does", 2),
                           ("marks", 3), ("does", 3), ("does", 4), FALL, ("rises", 3), ("does", 3), ("does", 4), END])

    def test_rows_gone_through_count_too(self):
        work = Work((1, 1, (SET,) * 4), [], "on", 2)
        self.follow(work, [("notes", 0), ("does", 0), ("notes", 1), ("does", 1), FALL, ("rises", 0), ("again", 0),
                           ("again", 1), ("marks", 2), ("notes", 2), ("does", 2), FALL, ("rises", 2), ("again", 2),
                           ("notes", 3), ("does", 3), END])


class Ends(Logs):
    def test_a_fault_is_an_end_without_a_note_and_without_a_change(self):
        rows = ((("take", 0), "none"), (("get", 0, 0, ONE), "place"), (("put", 0, ONE, ONE), "place"))
        for way in WAYS:
            for row, word in rows:
                ends = ("fault", word)
                self.follow_states(Work((1, 1, (row, SEND)), [], way, 0), [
                    (("ends", ends), [[]], [], (0, [0]), (0, 0), ends, 0),
                    (RESTS, [[]], [], (0, [0]), (0, 0), ends, 0),
                ])

    def test_a_full_file(self):
        for way in WAYS:
            work = Work((1, 1, (ADD, ("go", 0))), [], way, 0)
            self.assertEqual(move_on(work)[-1], ("ends", ("fault", "full")))
            self.assertEqual(state(work)[:3], ([[1] * 40], [], (0, [0])))
            self.assertEqual(work.kept(), (0, 80 if way == "on" else 40))
            self.assertEqual((work.end(), work.steps()), (("fault", "full"), 80))

    def test_the_1000_rows(self):
        for way in WAYS:
            work = Work((1, 1, (("go", 0),)), [], way, 0)
            log = move_on(work)
            turn = [("does", 0)] if way == "back" else [("notes", 0), ("does", 0)]
            self.assertEqual(log, turn * 1000 + [LONG])
            self.assertEqual(work.kept(), (0, 0 if way == "back" else 1000))
            self.assertEqual((work.end(), work.steps(), work.stands()), (("long",), 1000, (0, [0])))

    # The rounds come to 4 * 249 + 2 = 998 rows.
    def test_the_end_is_ahead_of_the_1000_rows(self):
        for way in WAYS:
            for often in (0, 1, 2, 50):
                self.assertEqual(self.last(counted(249, SET, SET), way, often), END)
                self.assertEqual(self.last(counted(249, SET, SET, SET), way, often), LONG)
                self.assertEqual(self.last(counted(249, MARK, MARK), way, often), END)
                self.assertEqual(self.last(counted(249, MARK, MARK, MARK), way, often), LONG)

    def last(self, program, way, often):
        return move_on(Work(program, [], way, often))[-1]

    def test_the_1000_rows_are_ahead_of_a_fault(self):
        for way in WAYS:
            for often in (0, 1, 2, 50):
                for row, word in ((("take", 0), "none"), (("get", 0, 0, ONE), "place")):
                    self.assertEqual(self.last(counted(249, SET, SET, row), way, often), LONG)
                    self.assertEqual(self.last(counted(249, SET, row), way, often), ("ends", ("fault", word)))

    def test_the_end_is_ahead_of_often(self):
        self.follow(Work((1, 1, (SET, SET)), [], "back", 2), [("does", 0), ("does", 1), END])
        self.follow(Work((1, 1, (SET,)), [], "on", 1), [("notes", 0), ("does", 0), END])

    def test_the_1000_rows_are_ahead_of_often(self):
        for often in (1, 2, 4, 5, 8, 10, 20, 25, 40, 50):
            work = Work((1, 1, (("go", 0),)), [], "back", often)
            log = move_on(work)
            self.assertEqual(log[-2:], [("does", 0), LONG])
            self.assertEqual(log.count(("marks", 0)), 1000 // often - 1)

    def test_often_is_ahead_of_a_fault(self):
        self.follow(Work((1, 1, (SET, ("take", 0))), [], "back", 1),
                    [("does", 0), ("marks", 1), ("ends", ("fault", "none"))])
        self.follow(Work((1, 1, (SET, ("put", 0, ONE, ONE))), [], "on", 1),
                    [("notes", 0), ("does", 0), ("marks", 1), ("ends", ("fault", "place"))])
        self.follow(Work((1, 1, (SET, ("take", 0))), [], "back", 2), [("does", 0), ("ends", ("fault", "none"))])

    def test_the_1000_rows_are_those_of_this_standing(self):
        work = Work((1, 1, (("go", 0),)), [], "back", 0)
        self.follow(work, [("does", 0)] * 600 + [FALL, ("rises", 0)] + [("does", 0)] * 1000 + [LONG])
        self.assertEqual(work.steps(), 1600)
        work = Work((1, 1, (("go", 0),)), [], "back", 99)
        self.follow(work, [("does", 0)] * 99 + [("marks", 0)] + [("does", 0)] * 40 + [FALL, ("rises", 0)])
        log = move_on(work)
        self.assertEqual((log.count(("does", 0)), log[-1], work.steps()), (901, LONG, 1040))

    def test_by_on_rows_gone_through_are_among_the_1000(self):
        work = Work((1, 1, (("go", 0),)), [], "on", 0)
        self.follow(work, [("notes", 0), ("does", 0)] * 600 + [FALL, ("rises", 0)] + [("again", 0)] * 600)
        self.follow(work, [("notes", 0), ("does", 0)] * 400 + [LONG, RESTS])
        self.assertEqual(work.steps(), 1000)

    def test_a_fall_behind_the_end(self):
        for way in WAYS:
            work = Work((1, 1, (ADD, SEND)), [], way, 0)
            move_on(work)
            notes = 1 if way == "back" else 2
            self.assertEqual(state(work), ([[1]], [7], (2, [0]), (0, notes), ("end",), 2))
            fallen = ([[1]], [7], None, (0, notes), ("end",), 2)
            self.follow_states(work, [(entry, *fallen) for entry in (FALL, RESTS, FALL, FALL, RESTS, RESTS)])


class FallsByBack(Logs):
    def test_ahead_of_the_first_move(self):
        self.follow_states(Work(MIXED, [5], "back", 0), [
            (FALL, [[]], [], None, (0, 0), None, 0),
            (FALL, [[]], [], None, (0, 0), None, 0),
            (("rises", 0), [[]], [], (0, [0, 0]), (0, 0), None, 0),
            (("does", 0), [[]], [], (1, [5, 0]), (0, 0), None, 1),
        ])

    def test_behind_a_row_that_was_done_at_once(self):
        self.follow_states(Work(MIXED, [5], "back", 0), [
            (("does", 0), [[]], [], (1, [5, 0]), (0, 0), None, 1),
            (FALL, [[]], [], None, (0, 0), None, 1),
            (("rises", 0), [[]], [], (0, [0, 0]), (0, 0), None, 1),
            (("does", 0), [[]], [], (1, [5, 0]), (0, 0), None, 2),
        ])

    def test_behind_a_note(self):
        work = Work(MIXED, [5], "back", 0)
        self.follow(work, [("does", 0)])
        self.follow_states(work, [
            (("notes", 1), [[]], [], (1, [5, 0]), (0, 1), None, 1),
            (FALL, [[]], [], None, (0, 1), None, 1),
            (("back", 0), [[]], [], None, (0, 0), None, 1),
            (("rises", 0), [[]], [], (0, [0, 0]), (0, 0), None, 1),
            (("does", 0), [[]], [], (1, [5, 0]), (0, 0), None, 2),
            (("notes", 1), [[]], [], (1, [5, 0]), (0, 1), None, 2),
            (("does", 1), [[5]], [], (2, [5, 0]), (0, 1), None, 3),
        ])

    def test_between_sends_and_does(self):
        work = Work(MIXED, [5], "back", 0)
        self.follow(work, [("does", 0), ("notes", 1), ("does", 1)])
        self.follow_states(work, [
            (("sends", 2), [[5]], [5], (2, [5, 0]), (0, 1), None, 2),
            (FALL, [[5]], [5], None, (0, 1), None, 2),
            (("back", 0), [[]], [5], None, (0, 0), None, 2),
            (("rises", 0), [[]], [5], (0, [0, 0]), (0, 0), None, 2),
            (("does", 0), [[]], [5], (1, [5, 0]), (0, 0), None, 3),
            (("notes", 1), [[]], [5], (1, [5, 0]), (0, 1), None, 3),
            (("does", 1), [[5]], [5], (2, [5, 0]), (0, 1), None, 4),
            (("skips", 2), [[5]], [5], (2, [5, 0]), (0, 1), None, 4),
            (("does", 2), [[5]], [5], (3, [5, 0]), (0, 1), None, 5),
            (("marks", 4), [[5]], [5], (4, [5, 0]), (4, 0), None, 6),
        ])

    def test_behind_a_letter_and_behind_a_skip(self):
        work = Work((1, 1, (SEND, ("send", ("num", 8)), ("send", ("num", 9)))), [], "back", 0)
        self.follow(work, [("sends", 0), ("does", 0), ("sends", 1), FALL, ("rises", 0), ("skips", 0), FALL,
                           ("rises", 0), ("skips", 0), ("does", 0), FALL, ("rises", 0), ("skips", 0), ("does", 0),
                           ("skips", 1), ("does", 1), ("sends", 2)])
        self.assertEqual(work.sent(), [7, 8, 9])
        self.follow(work, [("does", 2), END])

    def test_letters_ahead_of_the_mark_are_no_letters_behind_it(self):
        work = Work((1, 1, (SEND, SEND, MARK, SEND, SEND)), [], "back", 0)
        self.follow(work, [("sends", 0), ("does", 0), ("sends", 1), ("does", 1), ("marks", 3), ("sends", 3), FALL,
                           ("rises", 3), ("skips", 3), ("does", 3), ("sends", 4), ("does", 4), END])
        self.assertEqual(work.sent(), [7] * 4)

    # Two letters are out when a mark is kept behind the first of them: the mark counts those of its rows.
    def test_a_mark_that_is_kept_when_more_letters_are_out(self):
        work = Work((1, 1, (SEND, SEND, SEND, SEND)), [], "back", 3)
        self.follow(work, [("sends", 0), ("does", 0), ("sends", 1), ("does", 1), ("sends", 2), FALL, ("rises", 0),
                           ("skips", 0), ("does", 0), ("skips", 1), ("does", 1), ("skips", 2), ("does", 2),
                           ("marks", 3), FALL, ("rises", 3), ("sends", 3), FALL, ("rises", 3), ("skips", 3),
                           ("does", 3), END])
        self.assertEqual(work.sent(), [7] * 4)

    def test_files_are_put_back_from_the_last_note_on(self):
        rows = (("add", 0, ("num", 3)), ("add", 1, ("num", 4)), ("put", 0, ("num", 0), ("num", 5)), ("cut", 1, ("num", 0)),
                ("add", 0, ("num", 6)))
        work = Work((1, 2, rows), [], "back", 0)
        for row in range(4):
            self.follow(work, [("notes", row), ("does", row)])
        self.follow_states(work, [
            (("notes", 4), [[5], []], [], (4, [0]), (0, 5), None, 4),
            (("does", 4), [[5, 6], []], [], (5, [0]), (0, 5), None, 5),
            (FALL, [[5, 6], []], [], None, (0, 5), None, 5),
            (("back", 0), [[5], []], [], None, (0, 4), None, 5),
            (("back", 1), [[5], [4]], [], None, (0, 3), None, 5),
            (FALL, [[5], [4]], [], None, (0, 3), None, 5),
            (FALL, [[5], [4]], [], None, (0, 3), None, 5),
            (("back", 0), [[3], [4]], [], None, (0, 2), None, 5),
            (("back", 1), [[3], []], [], None, (0, 1), None, 5),
            (FALL, [[3], []], [], None, (0, 1), None, 5),
            (("back", 0), [[], []], [], None, (0, 0), None, 5),
            (FALL, [[], []], [], None, (0, 0), None, 5),
            (("rises", 0), [[], []], [], (0, [0]), (0, 0), None, 5),
            (FALL, [[], []], [], None, (0, 0), None, 5),
            (("rises", 0), [[], []], [], (0, [0]), (0, 0), None, 5),
            (("notes", 0), [[], []], [], (0, [0]), (0, 1), None, 5),
        ])

    def test_numbers_are_taken_again(self):
        work = Work((2, 1, (("take", 0), ("take", 1), MARK, ("take", 0))), [4, 5, 6], "back", 0)
        self.follow(work, [("does", 0), ("does", 1), FALL, ("rises", 0), ("does", 0), ("does", 1), ("marks", 3)])
        self.assertEqual(work.stands(), (3, [4, 5]))
        self.follow(work, [("does", 3), FALL, ("rises", 3), ("does", 3), END])
        self.assertEqual(work.stands(), (4, [6, 5]))


class FallsByOn(Logs):
    def test_ahead_of_the_first_move(self):
        self.follow_states(Work(MIXED, [5], "on", 0), [
            (FALL, [[]], [], None, (0, 0), None, 0),
            (("rises", 0), [[]], [], (0, [0, 0]), (0, 0), None, 0),
            (("notes", 0), [[]], [], (0, [0, 0]), (0, 1), None, 0),
        ])

    def test_behind_a_note_whose_row_was_not_done(self):
        self.follow_states(Work(MIXED, [5], "on", 0), [
            (("notes", 0), [[]], [], (0, [0, 0]), (0, 1), None, 0),
            (FALL, [[]], [], None, (0, 1), None, 0),
            (("rises", 0), [[]], [], (0, [0, 0]), (0, 1), None, 0),
            (("again", 0), [[]], [], (0, [0, 0]), (0, 1), None, 0),
            (("does", 0), [[]], [], (1, [5, 0]), (0, 1), None, 1),
            (("notes", 1), [[]], [], (1, [5, 0]), (0, 2), None, 1),
            (FALL, [[]], [], None, (0, 2), None, 1),
            (FALL, [[]], [], None, (0, 2), None, 1),
            (("rises", 0), [[]], [], (0, [0, 0]), (0, 2), None, 1),
            (("again", 0), [[]], [], (1, [5, 0]), (0, 2), None, 1),
            (("again", 1), [[]], [], (1, [5, 0]), (0, 2), None, 1),
            (FALL, [[]], [], None, (0, 2), None, 1),
            (("rises", 0), [[]], [], (0, [0, 0]), (0, 2), None, 1),
            (("again", 0), [[]], [], (1, [5, 0]), (0, 2), None, 1),
            (("again", 1), [[]], [], (1, [5, 0]), (0, 2), None, 1),
            (("does", 1), [[5]], [], (2, [5, 0]), (0, 2), None, 2),
        ])

    def test_behind_a_row_that_was_done(self):
        work = Work(MIXED, [5], "on", 0)
        self.follow(work, [("notes", 0), ("does", 0), ("notes", 1), ("does", 1), FALL])
        self.follow_states(work, [
            (("rises", 0), [[5]], [], (0, [0, 0]), (0, 2), None, 2),
            (("again", 0), [[5]], [], (1, [5, 0]), (0, 2), None, 2),
            (("again", 1), [[5]], [], (2, [5, 0]), (0, 2), None, 2),
            (("notes", 2), [[5]], [], (2, [5, 0]), (0, 3), None, 2),
        ])

    def test_between_sends_and_does(self):
        work = Work(MIXED, [5], "on", 0)
        self.follow(work, [("notes", 0), ("does", 0), ("notes", 1), ("does", 1), ("notes", 2), ("sends", 2), FALL,
                           ("rises", 0), ("again", 0), ("again", 1)])
        self.follow_states(work, [
            (("again", 2), [[5]], [5], (2, [5, 0]), (0, 3), None, 2),
            (("skips", 2), [[5]], [5], (2, [5, 0]), (0, 3), None, 2),
            (FALL, [[5]], [5], None, (0, 3), None, 2),
            (("rises", 0), [[5]], [5], (0, [0, 0]), (0, 3), None, 2),
            (("again", 0), [[5]], [5], (1, [5, 0]), (0, 3), None, 2),
            (("again", 1), [[5]], [5], (2, [5, 0]), (0, 3), None, 2),
            (("again", 2), [[5]], [5], (2, [5, 0]), (0, 3), None, 2),
            (("skips", 2), [[5]], [5], (2, [5, 0]), (0, 3), None, 2),
            (("does", 2), [[5]], [5], (3, [5, 0]), (0, 3), None, 3),
            (("marks", 4), [[5]], [5], (4, [5, 0]), (4, 0), None, 4),
        ])

    def test_letters_gone_through_are_counted(self):
        work = Work((1, 1, (SEND, ("send", ("num", 8)), ("send", ("num", 9)))), [], "on", 0)
        self.follow(work, [("notes", 0), ("sends", 0), ("does", 0), ("notes", 1), FALL, ("rises", 0), ("again", 0),
                           ("again", 1), ("sends", 1), ("does", 1), FALL, ("rises", 0), ("again", 0), ("again", 1),
                           ("notes", 2), ("sends", 2), FALL, ("rises", 0), ("again", 0), ("again", 1), ("again", 2),
                           ("skips", 2), ("does", 2), END])
        self.assertEqual(work.sent(), [7, 8, 9])

    # The file that was read is another one by now, so a note must tell what was read then.
    def test_what_is_gone_through_is_as_it_was_then(self):
        rows = (("add", 0, ("num", 4)), ("get", 0, 0, ("num", 0)), ("size", 1, 0), ("put", 0, ("num", 0), ("num", 6)),
                ("add", 0, ("name", 0)), ("take", 2))
        work = Work((3, 1, rows), [8], "on", 0)
        for row in range(6):
            self.follow(work, [("notes", row), ("does", row)])
        self.follow_states(work, [
            (FALL, [[6, 4]], [], None, (0, 6), None, 6),
            (("rises", 0), [[6, 4]], [], (0, [0, 0, 0]), (0, 6), None, 6),
            (("again", 0), [[6, 4]], [], (1, [0, 0, 0]), (0, 6), None, 6),
            (("again", 1), [[6, 4]], [], (2, [4, 0, 0]), (0, 6), None, 6),
            (("again", 2), [[6, 4]], [], (3, [4, 1, 0]), (0, 6), None, 6),
            (("again", 3), [[6, 4]], [], (4, [4, 1, 0]), (0, 6), None, 6),
            (("again", 4), [[6, 4]], [], (5, [4, 1, 0]), (0, 6), None, 6),
            (("again", 5), [[6, 4]], [], (6, [4, 1, 8]), (0, 6), None, 6),
            (END, [[6, 4]], [], (6, [4, 1, 8]), (0, 6), ("end",), 6),
        ])

    def test_numbers_taken_are_gone_through(self):
        work = Work((1, 1, (("take", 0), ("take", 0), ("take", 0))), [4, 5], "on", 0)
        self.follow(work, [("notes", 0), ("does", 0), FALL, ("rises", 0), ("again", 0), ("notes", 1), ("does", 1)])
        self.assertEqual(work.stands(), (2, [5]))
        self.follow(work, [FALL, ("rises", 0), ("again", 0), ("again", 1), ("ends", ("fault", "none"))])
        self.assertEqual(work.steps(), 2)

    def test_rows_that_go_are_gone_through(self):
        rows = (("unless", 0, 2), SEND, ("set", 0, ONE), ("unless", 0, 1), ("go", 6), SEND)
        work = Work((1, 1, rows), [], "on", 0)
        log = [("notes", 0), ("does", 0), ("notes", 2), ("does", 2), ("notes", 3), ("does", 3), ("notes", 4)]
        self.follow(work, log + [FALL, ("rises", 0), ("again", 0), ("again", 2), ("again", 3), ("again", 4)])
        self.assertEqual(work.stands(), (4, [1]))
        self.follow(work, [("does", 4), END])

    def test_amid_notes_being_gone_through(self):
        work = Work((1, 1, (SET, SET, SET)), [], "on", 0)
        self.follow(work, [("notes", 0), ("does", 0), ("notes", 1), ("does", 1), ("notes", 2), FALL, ("rises", 0),
                           FALL, ("rises", 0), ("again", 0), FALL, FALL, ("rises", 0), ("again", 0), ("again", 1)])
        self.assertEqual(state(work), ([[]], [], (2, [2]), (0, 3), None, 2))
        self.follow(work, [FALL, ("rises", 0), ("again", 0), ("again", 1), ("again", 2)])
        self.assertEqual(state(work), ([[]], [], (2, [2]), (0, 3), None, 2))
        self.follow(work, [("does", 2), END])
        self.assertEqual(state(work), ([[]], [], (3, [3]), (0, 3), ("end",), 3))

    def test_behind_a_mark_there_is_nothing_to_go_through(self):
        work = Work((1, 1, (SET, MARK, SET)), [], "on", 0)
        self.follow(work, [("notes", 0), ("does", 0), ("marks", 2), FALL, ("rises", 2), ("notes", 2), FALL,
                           ("rises", 2), ("again", 2), ("does", 2), END])
        self.assertEqual(state(work), ([[]], [], (3, [2]), (2, 1), ("end",), 3))

    def test_a_row_of_the_program_is_not_done_twice(self):
        work = Work((1, 1, (ADD, ADD, ADD)), [], "on", 0)
        self.follow(work, [("notes", 0), ("does", 0), FALL, ("rises", 0), ("again", 0), ("notes", 1), FALL,
                           ("rises", 0), ("again", 0), ("again", 1), ("does", 1), FALL, ("rises", 0), ("again", 0),
                           ("again", 1), ("notes", 2), ("does", 2), END])
        self.assertEqual((work.files(), work.steps()), ([[1, 1, 1]], 3))


class AsRunTells(unittest.TestCase):
    def test_without_falls(self):
        for program in (MIXED, counted(3, SEND, ADD), counted(249, MARK, MARK, MARK), (1, 1, (ADD, ("go", 0)))):
            for way in WAYS:
                for often in (0, 1, 7):
                    work = Work(program, [5], way, often)
                    move_on(work)
                    told = (work.files(), work.sent(), work.end(), work.stands()[1], work.steps())
                    self.assertEqual(told, run(program, [5]))


if __name__ == "__main__":
    unittest.main()
