"""Promise [6], and [3] over works: what a Work is made of, what is refused, and what comes first."""

import unittest

from longwork.errors import BadHanded, BadOften, BadProgram, BadWay
from longwork.works import Work

from samples import ALL_WORDS, move_on

GOOD = (1, 1, (("take", 0),))
NO_PROGRAMS = (None, (), 5, (0, 1, ()), (1, 5, ()), (1, 1, []), (1, 1, (("take", 1),)), [1, 1, ()])
NO_HANDED = (None, (), (1,), "12", 5, True, [-1], [10007], [True], [None], ["1"], [[1]], [1] * 41)
NO_WAYS = ("", "Back", "BACK", "on ", " on", "off", "o", "backon", "back on", "fall", 0, 1, -1, True, False, None,
           [], ["back"], ["on"], (), ("back",), ("on",), ("back", "on"))
NO_OFTEN = (100, 101, 10**9, -1, -99, True, False, None, "", "0", "1", [], [1], (), (1,))


class Made(unittest.TestCase):
    def test_it_begins_at_the_beginning(self):
        for way in ("back", "on"):
            work = Work(ALL_WORDS, [5], way, 3)
            self.assertEqual(work.files(), [[], []])
            self.assertEqual(work.sent(), [])
            self.assertEqual(work.stands(), (0, [0, 0]))
            self.assertEqual(work.kept(), (0, 0))
            self.assertIsNone(work.end())
            self.assertEqual(work.steps(), 0)

    def test_names_and_files_in_their_number(self):
        for names in range(1, 9):
            for files in range(1, 5):
                work = Work((names, files, ()), [], "on", 0)
                self.assertEqual((work.files(), work.stands()), ([[]] * files, (0, [0] * names)))

    def test_the_kinds_of_what_is_told(self):
        for way in ("back", "on"):
            work = Work(ALL_WORDS, [5], way, 0)
            told = move_on(work)
            self.assertEqual({entry.__class__ for entry in told}, {tuple})
            things = (work.files(), work.files()[0], work.sent(), work.stands(), work.stands()[1], work.kept(),
                      work.end(), work.steps())
            self.assertEqual([thing.__class__ for thing in things], [list, list, list, tuple, list, tuple, tuple, int])

    def test_the_methods_stand_in_the_class_itself(self):
        for name in ("move", "fall", "files", "sent", "stands", "kept", "end", "steps"):
            self.assertIn(name, vars(Work))


class Refused(unittest.TestCase):
    def test_both_ways_are_let_by(self):
        for way in ("back", "on"):
            Work(GOOD, [], way, 0)

    def test_often_at_its_bounds(self):
        for often in (0, 1, 98, 99):
            Work(GOOD, [], "back", often)

    def test_forty_numbers_are_let_by(self):
        program = (1, 1, (("take", 0), ("send", ("name", 0)), ("go", 0)))
        work = Work(program, [10006, 0] * 20, "on", 0)
        move_on(work)
        self.assertEqual(work.sent(), [10006, 0] * 20)
        self.assertEqual(work.end(), ("fault", "none"))

    def test_each_alone(self):
        for program in NO_PROGRAMS:
            self.assertRaises(BadProgram, Work, program, [], "back", 0)
        for handed in NO_HANDED:
            self.assertRaises(BadHanded, Work, GOOD, handed, "back", 0)
        for way in NO_WAYS:
            self.assertRaises(BadWay, Work, GOOD, [], way, 0)
        for often in NO_OFTEN:
            self.assertRaises(BadOften, Work, GOOD, [], "on", often)

    def test_what_is_handed_in_first_is_refused_first(self):
        bad = (NO_PROGRAMS, NO_HANDED, NO_WAYS, NO_OFTEN)
        errors = (BadProgram, BadHanded, BadWay, BadOften)
        for first in range(4):
            for second in range(first + 1, 4):
                for one in bad[first]:
                    for other in bad[second]:
                        args = [GOOD, [1], "back", 7]
                        args[first], args[second] = one, other
                        self.assertRaises(errors[first], Work, *args)

    def test_all_wrong_at_once(self):
        self.assertRaises(BadProgram, Work, None, None, None, None)
        self.assertRaises(BadHanded, Work, GOOD, None, None, None)
        self.assertRaises(BadWay, Work, GOOD, [], None, None)

    def test_a_program_is_refused_by_its_number_and_why(self):
        with self.assertRaises(BadProgram) as caught:
            Work((1, 1, (("mark",), ("get", 0, 1, None))), None, None, None)
        self.assertEqual((caught.exception.number, caught.exception.why), (1, "file"))


if __name__ == "__main__":
    unittest.main()
