"""Promise [4]: what parts come to, what each row does, and its faults."""

import unittest

from longwork.plain import run


def num(n):
    return ("num", n)


def adds(file, *numbers):
    return tuple(("add", file, num(n)) for n in numbers)


def done(names, files, *rows, handed=()):
    return run((names, files, tuple(rows)), list(handed))


class Parts(unittest.TestCase):
    def comes_to(self, part, worth, handed=()):
        takes = tuple(("take", k) for k in range(len(handed)))
        self.assertEqual(done(3, 1, *takes, ("send", part), handed=handed)[1], [worth], part)

    def test_num_and_name(self):
        for n in (0, 1, 10006):
            self.comes_to(num(n), n)
            self.comes_to(("name", 0), n, [n])
        self.comes_to(("name", 1), 8, [7, 8, 9])
        self.comes_to(("name", 2), 9, [7, 8, 9])
        self.comes_to(("name", 2), 0, [7, 8])

    def test_sum_by_its_rest(self):
        for one, other, worth in ((0, 0, 0), (2, 3, 5), (10006, 0, 10006), (10006, 1, 0), (5003, 5004, 0),
                                  (5003, 5003, 10006), (10006, 2, 1), (10006, 10006, 10005)):
            self.comes_to(("sum", num(one), num(other)), worth)
            self.comes_to(("sum", ("name", 1), ("name", 0)), worth, [one, other])

    def test_diff_by_its_rest(self):
        for one, other, worth in ((0, 0, 0), (5, 3, 2), (3, 5, 10005), (0, 1, 10006), (0, 10006, 1),
                                  (10006, 0, 10006), (10006, 10006, 0), (5, 6, 10006)):
            self.comes_to(("diff", num(one), num(other)), worth)
            self.comes_to(("diff", ("name", 0), ("name", 1)), worth, [one, other])

    def test_less(self):
        for one, other, worth in ((0, 0, 0), (0, 1, 1), (1, 0, 0), (10005, 10006, 1), (10006, 10006, 0), (10006, 0, 0)):
            self.comes_to(("less", num(one), num(other)), worth)
            self.comes_to(("less", ("name", 0), ("name", 1)), worth, [one, other])

    def test_parts_within_parts(self):
        self.comes_to(("diff", ("sum", num(10006), num(3)), ("less", num(1), num(2))), 1)
        self.comes_to(("less", ("diff", num(0), num(1)), ("sum", num(10006), num(1))), 0)
        self.comes_to(("sum", ("diff", ("name", 0), ("name", 1)), ("name", 2)), 4, [7, 8, 5])
        self.comes_to(("diff", num(1), ("diff", num(2), num(4))), 3)


class Names(unittest.TestCase):
    def test_names_hold_0_at_first(self):
        self.assertEqual(done(3, 1)[3], [0, 0, 0])

    def test_set(self):
        self.assertEqual(done(3, 1, ("set", 1, num(7)))[3], [0, 7, 0])
        self.assertEqual(done(2, 1, ("set", 1, num(7)), ("set", 0, ("name", 1)), ("set", 1, num(0)))[3], [7, 0])

    def test_set_by_what_the_name_held(self):
        one_more = ("set", 0, ("sum", ("name", 0), num(1)))
        self.assertEqual(done(1, 1, one_more, one_more, one_more)[3], [3])

    def test_take_in_turn(self):
        self.assertEqual(done(3, 1, ("take", 2), ("take", 0), handed=[5, 6, 7])[3], [6, 0, 5])

    def test_take_none(self):
        self.assertEqual(done(1, 1, ("take", 0)), ([[]], [], ("fault", "none"), [0], 0))
        self.assertEqual(done(1, 1, ("take", 0), ("take", 0), handed=[4]), ([[]], [], ("fault", "none"), [4], 1))
        self.assertEqual(done(1, 1, ("take", 0), ("take", 0), handed=[4, 0]), ([[]], [], ("end",), [0], 2))

    def test_all_40_are_taken(self):
        loop = (("take", 0), ("add", 0, ("name", 0)), ("go", 0))
        handed = list(range(40))
        self.assertEqual(done(1, 1, *loop, handed=handed), ([handed], [], ("fault", "none"), [39], 120))

    def test_get(self):
        for place, worth in ((0, 7), (1, 8), (2, 9)):
            told = done(3, 2, *adds(1, 7, 8, 9), ("get", 2, 1, num(place)))
            self.assertEqual(told, ([[], [7, 8, 9]], [], ("end",), [0, 0, worth], 4))

    def test_get_by_the_name_that_it_sets(self):
        told = done(1, 1, *adds(0, 2, 5, 1), ("get", 0, 0, ("name", 0)), ("get", 0, 0, ("name", 0)))
        self.assertEqual(told[3], [1])

    def test_get_where_there_is_none(self):
        for place in (3, 4, 10006):
            told = done(2, 2, *adds(1, 7, 8, 9), ("set", 1, num(6)), ("get", 1, 1, num(place)), ("send", num(1)))
            self.assertEqual(told, ([[], [7, 8, 9]], [], ("fault", "place"), [0, 6], 4))
        self.assertEqual(done(1, 1, ("get", 0, 0, num(0))), ([[]], [], ("fault", "place"), [0], 0))
        self.assertEqual(done(1, 2, ("add", 1, num(1)), ("get", 0, 0, num(0)))[2], ("fault", "place"))

    def test_size(self):
        self.assertEqual(done(2, 2, ("set", 1, num(6)), ("size", 1, 0))[3], [0, 0])
        self.assertEqual(done(2, 2, *adds(1, 7, 8), ("size", 1, 1), ("size", 0, 0))[3], [0, 2])
        self.assertEqual(done(1, 1, *adds(0, *range(40)), ("size", 0, 0))[3], [40])


class Files(unittest.TestCase):
    def test_files_are_empty_at_first(self):
        self.assertEqual(done(1, 4)[0], [[], [], [], []])

    def test_add(self):
        told = done(1, 3, *adds(2, 5), *adds(0, 6, 0), *adds(2, 4))
        self.assertEqual(told, ([[6, 0], [], [5, 4]], [], ("end",), [0], 4))

    def test_add_to_a_full_one(self):
        full = list(range(40))
        self.assertEqual(done(1, 2, *adds(1, *full)), ([[], full], [], ("end",), [0], 40))
        told = done(1, 2, *adds(1, *full), *adds(0, 3), *adds(1, 7), ("send", num(1)))
        self.assertEqual(told, ([[3], full], [], ("fault", "full"), [0], 41))

    def test_add_behind_a_cut(self):
        told = done(1, 1, *adds(0, *range(40)), ("cut", 0, num(39)), *adds(0, 9))
        self.assertEqual(told, ([list(range(39)) + [9]], [], ("end",), [0], 42))

    def test_put(self):
        for place, held in ((0, [1, 8, 9]), (1, [7, 1, 9]), (2, [7, 8, 1])):
            told = done(1, 2, *adds(1, 7, 8, 9), ("put", 1, num(place), num(1)))
            self.assertEqual(told, ([[], held], [], ("end",), [0], 4))

    def test_put_where_there_is_none(self):
        for place in (3, 4, 10006):
            told = done(1, 2, *adds(1, 7, 8, 9), ("put", 1, num(place), num(1)), ("send", num(1)))
            self.assertEqual(told, ([[], [7, 8, 9]], [], ("fault", "place"), [0], 3))
        self.assertEqual(done(1, 1, ("put", 0, num(0), num(1))), ([[]], [], ("fault", "place"), [0], 0))

    def test_cut_with_fewer_as_many_and_more(self):
        for many, held in ((0, []), (1, [7]), (2, [7, 8]), (3, [7, 8, 9]), (4, [7, 8, 9]), (10006, [7, 8, 9])):
            told = done(1, 2, *adds(1, 7, 8, 9), *adds(0, 5), ("cut", 1, num(many)))
            self.assertEqual(told, ([[5], held], [], ("end",), [0], 5))
        self.assertEqual(done(1, 1, ("cut", 0, num(3))), ([[]], [], ("end",), [0], 1))

    def test_files_by_names(self):
        rows = (("set", 0, num(1)), *adds(0, 7, 8), ("put", 0, ("name", 0), ("sum", ("name", 0), num(4))))
        self.assertEqual(done(1, 1, *rows)[0], [[7, 5]])
        self.assertEqual(done(1, 1, *rows, ("cut", 0, ("name", 0)), ("add", 0, ("name", 0)))[0], [[7, 1]])


class Others(unittest.TestCase):
    def test_send_in_turn(self):
        told = done(1, 1, ("send", num(5)), ("send", num(0)), ("take", 0), ("send", ("name", 0)), handed=[5])
        self.assertEqual(told, ([[]], [5, 0, 5], ("end",), [5], 4))

    def test_go(self):
        told = done(1, 1, ("go", 2), ("send", num(1)), ("send", num(2)))
        self.assertEqual(told, ([[]], [2], ("end",), [0], 2))
        self.assertEqual(done(1, 1, ("go", 2), ("send", num(1))), ([[]], [], ("end",), [0], 1))

    def test_go_back(self):
        told = done(1, 1, ("take", 0), ("send", ("name", 0)), ("go", 0), handed=[4, 3])
        self.assertEqual(told, ([[]], [4, 3], ("fault", "none"), [3], 6))

    def test_unless_with_0(self):
        told = done(2, 1, ("set", 0, num(1)), ("unless", 1, 3), ("send", num(1)), ("send", num(2)))
        self.assertEqual(told, ([[]], [2], ("end",), [1, 0], 3))

    def test_unless_with_another_number(self):
        for n in (1, 2, 10006):
            told = done(2, 1, ("set", 1, num(n)), ("unless", 1, 3), ("send", num(1)), ("send", num(2)))
            self.assertEqual(told, ([[]], [1, 2], ("end",), [0, n], 4))

    def test_unless_to_itself_ahead_and_behind_all(self):
        self.assertEqual(done(1, 1, ("unless", 0, 0))[2], ("long",))
        self.assertEqual(done(1, 1, ("unless", 0, 1)), ([[]], [], ("end",), [0], 1))

    def test_mark_does_nothing(self):
        rows = (("take", 0), *adds(0, 5), ("send", num(4)))
        told = done(1, 1, *rows, ("mark",), *rows, handed=[9, 8])
        self.assertEqual(told, ([[5, 5]], [4, 4], ("end",), [8], 7))


if __name__ == "__main__":
    unittest.main()
