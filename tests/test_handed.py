"""Promise [3], of the numbers that are handed in, and which is refused first."""

import unittest

from longwork.errors import BadHanded, BadProgram
from longwork.judging import judged
from longwork.plain import run
from longwork.works import Work

GOOD = (1, 1, (("take", 0),))
NO_NUMBERS = (-1, -10**9, 10007, 10008, 10**30, True, False, None, "", "1", [], [1], (), (1,))
NO_LISTS = (None, True, False, 0, 1, -1, "", "12", (), (1,), (1, 2, 3), ([1],))


class Handed(unittest.TestCase):
    def bad(self, handed):
        # What is behind it is wrong too, and refused later.
        for call, behind in ((run, ()), (Work, (None, None)), (judged, (None, None, None))):
            with self.assertRaises(BadHanded, msg=repr(handed)):
                call(GOOD, handed, *behind)

    def test_numbers_at_their_bounds(self):
        for number in (0, 1, 10005, 10006):
            self.assertEqual(run(GOOD, [number])[3], [number])

    def test_how_many_at_their_bounds(self):
        for many in (1, 39, 40):
            self.assertEqual(run(GOOD, [5] * many)[2], ("end",))
        self.assertEqual(run(GOOD, [])[2], ("fault", "none"))
        for many in (41, 42, 3000):
            self.bad([5] * many)

    def test_what_is_no_number_at_any_place(self):
        for thing in NO_NUMBERS:
            self.bad([thing])
            self.bad([thing, 1, 2])
            self.bad([0, thing, 2])
            self.bad([0] * 39 + [thing])

    def test_what_is_no_list(self):
        for thing in NO_LISTS:
            self.bad(thing)

    def test_numbers_that_are_never_taken_are_refused_too(self):
        with self.assertRaises(BadHanded):
            run((1, 1, ()), [10007])

    def test_the_program_is_refused_first(self):
        for handed in NO_LISTS + ([None], [5] * 41):
            for program, told in ((None, (-1, "shape")), ((9, 1, ()), (-1, "names")), ((1, 9, ()), (-1, "files")),
                                  ((1, 1, (("mark",), ("take", 1))), (1, "name"))):
                with self.assertRaises(BadProgram) as caught:
                    run(program, handed)
                self.assertEqual((caught.exception.number, caught.exception.why), told)


if __name__ == "__main__":
    unittest.main()
