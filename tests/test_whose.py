"""Promise [1]: nothing that is handed in is changed or kept, and what is told is whoever's who got it."""

import copy
import unittest

from longwork.errors import WorkError
from longwork.judging import judged
from longwork.notes import read, written
from longwork.plain import run
from longwork.plans import best, cost
from longwork.works import Work

from samples import ALL_WORDS, FALL, TAKING, TAKING_WITH_MARKS, log_with_falls, move_on

HANDED = [3, 4, 5, 0]
WAYS = ("back", "on")
PROGRAMS = (ALL_WORDS, TAKING, TAKING_WITH_MARKS)


def state(work):
    return (work.files(), work.sent(), work.stands(), work.kept(), work.end(), work.steps())


def lists_told(work):
    """All lists that the work tells now, inner ones too."""
    files, sent, stands = work.files(), work.sent(), work.stands()
    return [files, *files, sent] + ([] if stands is None else [stands[1]])


class Works(unittest.TestCase):
    def test_numbers_handed_in_may_be_changed_behind(self):
        for program in PROGRAMS:
            for way in WAYS:
                handed = list(HANDED)
                one, other = Work(program, handed, way, 2), Work(program, list(HANDED), way, 2)
                self.assertEqual(one.move(), other.move())
                handed[:] = [9, 9]
                one.fall()
                other.fall()
                handed.clear()
                self.assertEqual(move_on(one), move_on(other))
                self.assertEqual(state(one), state(other))
                self.assertEqual(handed, [])

    def test_nothing_handed_in_is_changed(self):
        for program in PROGRAMS:
            for way in WAYS:
                handed, before = list(HANDED), copy.deepcopy(program)
                work = Work(program, handed, way, 3)
                for number in range(12):
                    work.move()
                work.fall()
                move_on(work)
                self.assertEqual((handed, program), (HANDED, before))

    def test_asked_again_the_same_is_told(self):
        for program in PROGRAMS:
            for way in WAYS:
                work = Work(program, HANDED, way, 3)
                for number in range(60):
                    self.assertEqual(state(work), state(work))
                    work.fall() if number % 13 == 12 else work.move()

    def test_what_is_told_may_be_changed(self):
        for program in PROGRAMS:
            for way in WAYS:
                for often in (0, 2):
                    one, other = Work(program, HANDED, way, often), Work(program, HANDED, way, often)
                    for number in range(150):
                        before = state(one)
                        self.assertEqual(before, state(other))
                        for told in lists_told(one):
                            told.append(77)
                            told[0] = 78
                        self.assertEqual(state(one), before)
                        if number % 23 == 11:
                            one.fall()
                            other.fall()
                        else:
                            self.assertEqual(one.move(), other.move())
                    move_on(one)
                    self.assertEqual((one.files(), one.sent(), one.end()), run(program, HANDED)[:3])

    def test_no_two_lists_told_are_the_same_one(self):
        for program in PROGRAMS:
            for way in WAYS:
                handed = list(HANDED)
                work = Work(program, handed, way, 0)
                found = [handed]
                for number in range(60):
                    found += lists_told(work) + lists_told(work)
                    work.fall() if number % 17 == 16 else work.move()
                self.assertEqual(len({id(one) for one in found}), len(found))

    def test_a_list_that_was_told_stays_as_it_was(self):
        for way in WAYS:
            work = Work(TAKING, HANDED, way, 0)
            found = []
            for number in range(60):
                found.append((state(work), copy.deepcopy(state(work))))
                work.fall() if number % 17 == 16 else work.move()
            for told, then in found:
                self.assertEqual(told, then)

    def test_two_works_know_nothing_of_each_other(self):
        alone = [log_with_falls((TAKING, HANDED, way, 3), {5, 9}) for way in WAYS]
        works = [Work(TAKING, HANDED, way, 3) for way in WAYS]
        logs = [[], []]
        while works[0].end() is None or works[1].end() is None:
            for work, log in zip(works, logs):
                if work.end() is None and len(log) in (5, 9):
                    work.fall()
                    log.append(FALL)
                elif work.end() is None:
                    log.append(work.move())
        self.assertEqual(logs, alone)

    def test_two_works_of_the_same_kind(self):
        for way in WAYS:
            one, other = Work(TAKING, HANDED, way, 0), Work(TAKING, HANDED, way, 0)
            before = state(other)
            move_on(one)
            self.assertEqual(state(other), before)
            move_on(other)
            self.assertEqual(state(other), state(one))

    def test_a_work_and_run_know_nothing_of_each_other(self):
        work = Work(TAKING, HANDED, "on", 0)
        before = run(TAKING, HANDED)
        for number in range(20):
            work.move()
            self.assertEqual(run(TAKING, HANDED), before)


class Calls(unittest.TestCase):
    """Each call twice over the same lists: the same is told, and nothing is changed by it."""

    def same(self, call, *args):
        before = copy.deepcopy(args)
        told = call(*args)
        self.assertEqual(args, before)
        kept = copy.deepcopy(told)
        self.assertEqual(call(*args), kept)
        return told

    def test_judged(self):
        for way in WAYS:
            log = log_with_falls((TAKING, HANDED, way, 0), {3, 7, 8})
            self.assertIsNone(self.same(judged, TAKING, list(HANDED), way, 0, log))
            log[5] = ("rests",)
            self.assertEqual(self.same(judged, TAKING, list(HANDED), way, 0, log), 5)
            self.assertIsNone(judged(TAKING, HANDED, way, 0, log[:5]))

    def test_cost_and_best(self):
        weights, falls, marks = [5, 6, 7, 8], [1, 2, 2, 4], [1, 3]
        self.assertEqual(self.same(cost, weights, falls, 3, marks), 0 + 6 + 6 + 8 + 6)
        told = self.same(best, weights, falls, 3)
        before = copy.deepcopy(told)
        told[1].append(99)
        self.assertEqual(best(weights, falls, 3), before)
        again = best(weights, falls, 3)
        self.assertNotIn(id(again[1]), (id(told[1]), id(weights), id(falls)))
        weights.clear()
        falls.clear()
        self.assertEqual(again, before)
        self.assertEqual(best(weights, falls, 3), (0, []))

    def test_written_and_read(self):
        for program in PROGRAMS:
            self.assertEqual(self.same(read, self.same(written, program)), program)

    def test_a_refusal_changes_nothing_either(self):
        calls = ((Work, TAKING, [1, None], "back", 0), (judged, TAKING, [1], "back", 0, [FALL, None, FALL]),
                 (cost, [1, 2], [2, 1], 0, []), (cost, [1, 2], [1], 0, [1, 1]), (best, [1, 2, 0], [1], 0))
        for call, *args in calls:
            before = copy.deepcopy(args)
            for time in range(2):
                self.assertRaises(WorkError, call, *args)
                self.assertEqual(args, before)


if __name__ == "__main__":
    unittest.main()
