"""Promise [10], and [3] over it: which logs are refused, and which entry can't be behind those ahead."""

import random
import unittest

from longwork.errors import BadHanded, BadLog, BadOften, BadProgram, BadWay
from longwork.judging import judged
from longwork.works import Work

from samples import ALL_WORDS, FALL, ONE, TAKING, TAKING_WITH_MARKS, log_with_falls, some_cases

NUMBERED = ("back", "rises", "again", "sends", "skips", "does", "marks", "notes")
ENDS = (("end",), ("long",), ("fault", "none"), ("fault", "full"), ("fault", "place"))
ENTRIES = [FALL, ("rests",)] + [(word, number) for word in NUMBERED for number in range(61)]
ENTRIES += [("ends", end) for end in ENDS]
NO_NUMBERS = (61, 62, 1000, 10**30, -1, -60, True, False, None, "", "0", [], [0], (), (0,), ("end",))
NO_ENDS = (
    None, True, 0, 1, -1, "", "end", "long", "fault", (), [], ["end"], ["fault", "none"], ("END",), ("ends",), ("end", 1),
    ("end", None), ("end", "none"), ("long", 1), ("long", "none"), ("fault",), ("fault", ""), ("fault", "end"),
    ("fault", "row"), ("fault", None), ("fault", 0), ("fault", "none", "none"), ("fault", ("none",)), ("none",),
    ("place",), ("full",), (("end",),), ("fault", ["none"]),
)
NO_ENTRIES = [None, True, False, 0, 1, -1, "", "fall", "rests", (), [], ["fall"], ["does", 0], [("fall",)], (("fall",),)]
NO_ENTRIES += [(word, number) for word in NUMBERED for number in NO_NUMBERS]
NO_ENTRIES += [(word,) for word in NUMBERED + ("ends",)] + [(word, 0, 0) for word in NUMBERED]
NO_ENTRIES += [("ends", end) for end in NO_ENDS] + [("ends", ("end",), 0), ("ends", "fault", "none")]
NO_ENTRIES += [("fall", 0), ("rests", 0), ("fall", None), ("fall", "fall"), ("rests", ()), ("fall", "rests")]
NO_ENTRIES += [(word, 0) for word in ("", "Does", "do", "done", "end", "mark", "set", "send", None, 0, True, ("does",))]
NO_ENTRIES += [(["does"], 0), (["fall"],), (None,), (0,), ("fault", "none"), ("end",), ("long",), ("does", "fall")]
LOOP = (1, 1, (("go", 0),))
NO_LOGS = (None, True, False, 0, 1, -1, "", "fall", (), (FALL,), (("does", 0),))


class Judged(unittest.TestCase):
    def bad(self, log, number, program=LOOP):
        with self.assertRaises(BadLog, msg=repr(log)[:200]) as caught:
            judged(program, [], "back", 0, log)
        self.assertEqual(caught.exception.number, number)
        self.assertNotIsInstance(caught.exception.number, bool)


class Refused(Judged):
    def test_all_entries_are_let_by(self):
        for entry in ENTRIES:
            told = judged(LOOP, [], "back", 0, [("does", 0), entry])
            self.assertEqual(told, None if entry in (FALL, ("does", 0)) else 1, entry)

    def test_what_is_no_entry_anywhere(self):
        for entry in NO_ENTRIES:
            self.bad([entry], 0)
            self.bad([("does", 0), entry, ("does", 0)], 1)
            self.bad([FALL, ("rises", 0), entry], 2)

    def test_the_first_of_several(self):
        for entry in NO_ENTRIES:
            self.bad([FALL, entry, entry], 1)
            self.bad([FALL, entry, None], 1)
            self.bad([FALL, None, entry], 1)

    def test_it_is_ahead_of_what_cannot_be(self):
        for entry in NO_ENTRIES:
            self.bad([("does", 7), ("rests",), entry], 2)
        self.bad([("does", 7)] * 3000 + [FALL], 3000)

    def test_how_many_are_let_by(self):
        self.assertIsNone(judged(LOOP, [], "back", 0, [FALL] * 3000))
        self.assertEqual(judged(LOOP, [], "back", 0, [FALL] * 2999 + [("does", 0)]), 2999)
        for many in (3001, 3002, 5000):
            self.bad([FALL] * many, 3000)
        self.bad([FALL] * 3000 + [None], 3000)

    def test_one_ahead_that_is_none(self):
        self.bad([FALL] * 2999 + [None] + [FALL] * 5, 2999)
        self.bad([None] + [FALL] * 3500, 0)
        self.bad([FALL] * 3000 + [FALL] * 3 + [None], 3000)

    def test_no_list(self):
        for log in NO_LOGS:
            self.bad(log, 0)

    def test_what_is_handed_in_first_is_refused_first(self):
        good = (LOOP, [1], "back", 0, [])
        bad = ((1, 1, None), [None], "up", 100, [None])
        errors = (BadProgram, BadHanded, BadWay, BadOften, BadLog)
        for first in range(5):
            for second in range(first, 5):
                args = list(good)
                args[first], args[second] = bad[first], bad[second]
                self.assertRaises(errors[first], judged, *args)
            self.assertRaises(errors[first], judged, *(good[:first] + bad[first:]))

    def test_a_program_is_refused_by_its_number_and_why(self):
        with self.assertRaises(BadProgram) as caught:
            judged((1, 1, (("mark",), ("go", 3))), [], "back", 0, [])
        self.assertEqual((caught.exception.number, caught.exception.why), (1, "row"))


class ByHand(Judged):
    PROGRAM = (1, 1, (("add", 0, ONE), ("send", ONE), ("mark",), ("take", 0)))

    def first(self, way, log, often=0):
        return judged(self.PROGRAM, [], way, often, log)

    def test_an_empty_log(self):
        self.assertIsNone(self.first("back", []))
        self.assertIsNone(self.first("on", []))

    def test_back(self):
        log = [("notes", 0), ("does", 0), ("sends", 1), FALL, ("back", 0), ("rises", 0), ("notes", 0), ("does", 0),
               ("skips", 1), ("does", 1), ("marks", 3), ("ends", ("fault", "none")), ("rests",), FALL, ("rests",)]
        self.assertIsNone(self.first("back", log))
        self.assertIsNone(self.first("back", log, 3))
        self.assertEqual(self.first("back", log, 2), 10)
        self.assertEqual(self.first("on", log), 2)
        self.assertEqual(self.first("back", log, 1), 2)

    def test_on(self):
        log = [FALL, ("rises", 0), ("notes", 0), ("does", 0), ("notes", 1), ("sends", 1), FALL, ("rises", 0),
               ("again", 0), ("again", 1), ("skips", 1), ("does", 1), ("marks", 3), ("ends", ("fault", "none")),
               ("rests",)]
        self.assertIsNone(self.first("on", log))
        self.assertEqual(self.first("back", log), 4)
        self.assertEqual(self.first("on", log, 1), 4)

    def test_what_cannot_be(self):
        self.assertEqual(self.first("back", [("rests",)]), 0)
        self.assertEqual(self.first("back", [("does", 0)]), 0)
        self.assertEqual(self.first("back", [("notes", 1)]), 0)
        self.assertEqual(self.first("back", [FALL, ("notes", 0)]), 1)
        self.assertEqual(self.first("back", [FALL, ("back", 0)]), 1)
        self.assertEqual(self.first("back", [("notes", 0), ("sends", 1), ("does", 0)]), 1)
        self.assertEqual(self.first("back", [("notes", 0), ("does", 0), ("skips", 1)]), 2)
        self.assertEqual(self.first("back", [("notes", 0), FALL, ("rises", 0)]), 2)
        self.assertEqual(self.first("back", [("notes", 0), FALL, ("back", 1)]), 2)
        log = [("notes", 0), ("does", 0), ("sends", 1), ("does", 1), ("marks", 3)]
        self.assertEqual(self.first("back", log + [("ends", ("end",))]), 5)
        self.assertEqual(self.first("back", log + [("ends", ("fault", "place"))]), 5)
        self.assertEqual(self.first("back", log + [("ends", ("fault", "none"))] * 2), 6)

    def test_numbers_that_are_handed_in_count(self):
        log = [("does", 0), ("ends", ("end",))]
        program = (1, 1, (("take", 0),))
        self.assertIsNone(judged(program, [4], "back", 0, log))
        self.assertEqual(judged(program, [], "back", 0, log), 0)


def told(case, log):
    """What the work tells where the log's falls are, an entry for each of the log."""
    work = Work(*case)
    found = []
    for entry in log:
        if entry == FALL:
            work.fall()
        found.append(FALL if entry == FALL else work.move())
    return found


def first_other(case, log):
    pairs = list(zip(log, told(case, log)))
    return next((number for number, (one, other) in enumerate(pairs) if one != other), None)


class ToldLogs(Judged):
    def cases(self):
        """(case, log) with falls among the entries, none too long."""
        chance = random.Random(8)
        found = [((TAKING, [3, 4, 0], way, often), {1, 4, 9, 10, 17}) for way in ("back", "on") for often in (0, 2, 5)]
        found += [((TAKING_WITH_MARKS, [6, 2, 0], way, 3), {0, 6, 8, 15, 30}) for way in ("back", "on")]
        found += [((ALL_WORDS, [5], way, 0), set()) for way in ("back", "on")]
        found += [(case, {chance.randrange(40) for fall in range(5)}) for case in some_cases(12, 60)]
        logs = [(case, log_with_falls(case, falls)) for case, falls in found]
        return [(case, log + [("rests",)]) for case, log in logs if len(log) < 400]

    def test_whole_and_cut_off_anywhere(self):
        cases = self.cases()
        self.assertGreater(len(cases), 30)
        for case, log in cases:
            self.assertIsNone(judged(*case, log))
            for stop in range(0, len(log), 1 + len(log) // 40):
                self.assertIsNone(judged(*case, log[:stop]))
            self.assertIsNone(judged(*case, log + [FALL, ("rests",), ("rests",), FALL]))

    def test_another_entry(self):
        chance = random.Random(9)
        for case, log in self.cases():
            for number in range(0, len(log), 1 + len(log) // 20):
                others = [(word, log[number][-1]) for word in NUMBERED] + [(log[number][0], row) for row in (0, 1, 5)]
                others = [entry for entry in others if entry in ENTRIES] + chance.sample(ENTRIES, 9) + [("rests",)]
                for entry in others:
                    if entry not in (log[number], FALL) and log[number] != FALL:
                        self.assertEqual(judged(*case, log[:number] + [entry] + log[number + 1:]), number)

    def test_left_out_twice_and_exchanged(self):
        for case, log in self.cases():
            for at in range(0, len(log) - 1, 1 + len(log) // 30):
                for other in (log[:at] + log[at + 1:], log[:at + 1] + log[at:],
                              log[:at] + [log[at + 1], log[at]] + log[at + 2:]):
                    self.assertEqual(judged(*case, other), first_other(case, other))

    def test_an_entry_left_out_by_hand(self):
        log = [("notes", 0), ("does", 0), ("sends", 1), ("does", 1), ("ends", ("end",)), ("rests",)]
        program = (1, 1, (("add", 0, ONE), ("send", ONE)))
        for number in range(5):
            self.assertEqual(judged(program, [], "back", 0, log[:number] + log[number + 1:]), number)
            self.assertEqual(judged(program, [], "back", 0, log[:number + 1] + log[number:]), number + 1)

    def test_the_longest_log(self):
        log = [("does", 0)] * 1000 + [("ends", ("long",))] + [("rests",)] * 1999
        self.assertIsNone(judged(LOOP, [], "back", 0, log))
        log[2999] = ("does", 0)
        self.assertEqual(judged(LOOP, [], "back", 0, log), 2999)
        log = [("notes", 0), ("does", 0)] * 900 + [FALL, ("rises", 0)] + [("again", 0)] * 900 + [("notes", 0)]
        self.assertIsNone(judged(LOOP, [], "on", 0, log))


if __name__ == "__main__":
    unittest.main()
