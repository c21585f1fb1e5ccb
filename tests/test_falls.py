"""Promise [9]: whenever and however often it falls, it ends as run tells, each letter being sent once."""

import random
import unittest

from longwork.plain import run
from longwork.works import Work

from samples import ALL_WORDS, TAKING, TAKING_WITH_MARKS, counted, some_cases

OFTEN = (0, 1, 2, 3, 4, 7, 50, 99)
SMALL = (
    (ALL_WORDS, [5]), (TAKING, [3, 4, 0]), (TAKING, [3]), (TAKING_WITH_MARKS, [6, 2, 0]), (TAKING_WITH_MARKS, [6]),
    (counted(2, ("send", ("num", 7)), ("add", 0, ("name", 0)), ("mark",)), []),
    ((1, 1, ()), []),
)


class Watched:
    """A work, and beside it what must hold of it at any time."""

    def __init__(self, test, program, handed, way, often):
        self.test = test
        self.way = way
        self.work = Work(program, handed, way, often)
        self.run = run(program, handed)
        self.files_at_mark = self.work.files()
        self.stood_at_mark = self.work.stands()
        self.done = 0

    def fall(self):
        self.test.assertIsNone(self.work.fall())
        self.test.assertIsNone(self.work.stands())
        self.look()

    def move(self):
        told = self.work.move()
        if told[0] == "marks":
            self.files_at_mark = self.work.files()
            self.stood_at_mark = self.work.stands()
            self.test.assertEqual(self.work.kept(), (told[1], 0))
        if told[0] == "rises":
            self.rises(told)
        self.look()
        return told

    def rises(self, told):
        self.test.assertEqual(self.work.stands(), self.stood_at_mark)
        self.test.assertEqual(told, ("rises", self.work.kept()[0]))
        if self.way == "back":
            self.test.assertEqual(self.work.files(), self.files_at_mark)
            self.test.assertEqual(self.work.kept()[1], 0)

    def look(self):
        sent = self.work.sent()
        self.test.assertEqual(sent, self.run[1][:len(sent)])
        if self.way == "on":
            self.test.assertLessEqual(self.work.steps(), self.run[4])

    def end(self):
        """Moved on, it ends as run tells."""
        while self.work.end() is None:
            self.move()
        files, sent, end, names, steps = self.run
        self.test.assertEqual((self.work.files(), self.work.sent(), self.work.end()), (files, sent, end))
        if self.way == "on":
            self.test.assertEqual(self.work.steps(), steps)
        else:
            self.test.assertGreaterEqual(self.work.steps(), steps)
        self.test.assertEqual(self.work.move(), ("rests",))
        return names


def length(program, handed, way, often):
    """How many moves it takes without falls, and the one that ends it."""
    work = Work(program, handed, way, often)
    moves = 0
    while work.end() is None:
        work.move()
        moves += 1
    return moves


class AtEachMoment(unittest.TestCase):
    def falls_at(self, case, moments):
        """It falls behind so many moves, then behind so many more, and so on."""
        watched = Watched(self, *case)
        for moves in moments:
            for move in range(moves):
                watched.move()
            watched.fall()
        ended = watched.work.end() is not None
        names = watched.end()
        if not ended:
            self.assertEqual(watched.work.stands()[1], names)

    def test_a_fall_at_each_moment(self):
        for program, handed in SMALL:
            for way in ("back", "on"):
                for often in OFTEN:
                    case = (program, handed, way, often)
                    for moves in range(length(*case) + 2):
                        self.falls_at(case, [moves])

    def test_two_falls_at_each_two_moments(self):
        for program, handed in SMALL:
            for way in ("back", "on"):
                for often in (0, 2):
                    case = (program, handed, way, often)
                    for moves in range(0, length(*case) + 1, 3):
                        for more in range(0, moves + 9, 2):
                            self.falls_at(case, [moves, more])

    def test_many_falls_one_move_further_each(self):
        for program, handed in SMALL:
            for way in ("back", "on"):
                for often in OFTEN:
                    self.falls_at((program, handed, way, often), list(range(40)))

    def test_no_mark_is_lost_by_many_falls(self):
        for program, handed in SMALL:
            for way in ("back", "on"):
                for moves in range(4):
                    self.falls_at((program, handed, way, 1), [moves] * 30)


class ManyPrograms(unittest.TestCase):
    def goes(self, case, chance, one_in):
        watched = Watched(self, *case)
        falls = 0
        while watched.work.end() is None and falls < 25:
            if chance.randrange(one_in) == 0:
                watched.fall()
                falls += 1
            else:
                watched.move()
        fallen = watched.work.stands() is None
        ended = watched.work.end() is not None
        names = watched.end()
        if not (fallen and ended):
            self.assertEqual(watched.work.stands()[1], names)
            self.assertEqual(watched.work.stands()[0] == len(case[0][2]), watched.work.end() == ("end",))
        return watched

    def test_many_falls(self):
        chance = random.Random(5)
        ends = {}
        for case in some_cases(11, 700):
            watched = self.goes(case, chance, chance.choice((2, 4, 9, 30)))
            ends[watched.work.end()] = ends.get(watched.work.end(), 0) + 1
        # Many programs are of no use if they all end alike.
        for end in (("end",), ("long",), ("fault", "none"), ("fault", "place"), ("fault", "full")):
            self.assertGreater(ends.get(end, 0), 5, ends)

    def test_seldom_falls_in_long_works(self):
        chance = random.Random(6)
        for rounds in (100, 249, 260):
            program = counted(rounds, ("add", 0, ("name", 0)), ("send", ("name", 0)))
            program = (2, 1, program[2][:2] + (("unless", 1, 4),) + program[2][2:])
            for way in ("back", "on"):
                for often in (0, 1, 37, 99):
                    self.goes((program, [], way, often), chance, 150)

    def test_each_often(self):
        chance = random.Random(7)
        for often in range(100):
            for way in ("back", "on"):
                self.goes((TAKING, [3, 4, 5, 6, 7, 8, 9, 1, 2, 3, 4, 0], way, often), chance, 12)


if __name__ == "__main__":
    unittest.main()
