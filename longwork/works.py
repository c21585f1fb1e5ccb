"""A program at work that may fall at any moment, and is begun again from a kept mark."""

from longwork.checks import check_handed, check_often, check_program, check_way
from longwork.plain import ended
from longwork.rows import Inside, planned


class Deed:
    """What a row is going to do, how its file was ahead of it, and whether it was done."""

    def __init__(self, row, change, was):
        self.row = row
        self.change = change
        self.was = was
        self.done = False


class Work:
    """A program at work: each move is one step of it, and between any two it may fall."""

    def __init__(self, program, handed, way, often):
        check_program(program)
        check_handed(handed)
        check_way(way)
        check_often(often)
        names, many, rows = program
        self.rows = rows
        self.handed = list(handed)
        self.way = way
        self.often = often
        self.disk = [[] for number in range(many)]
        self.out = []
        self.mark = Inside(names)
        self.notes = []
        self.ending = None
        self.all_done = 0
        # It begins as it is begun again: with nothing within, then as the mark tells.
        self.fall()
        self.rise()

    def fall(self):
        """Loses all that is within."""
        self.inside = None
        self.ahead = []
        self.about = None
        self.letter_out = False

    def rise(self):
        self.inside = self.mark.twin()
        # By "back" there are no notes left by now.
        self.ahead = list(self.notes)

    def move(self):
        """Does the first of what may come next, and tells it."""
        if self.ending is not None:
            return ("rests",)
        if self.inside is None:
            return self.begin_again()
        if self.ahead:
            return self.go_through(self.ahead.pop(0))
        if self.about is not None:
            return self.do_deed(self.about)
        return self.go_on(self.inside.row)

    def begin_again(self):
        if self.way == "back" and self.notes:
            deed = self.notes.pop()
            self.disk[deed.change.file] = deed.was
            return ("back", deed.change.file)
        self.rise()
        return ("rises", self.inside.row)

    def go_through(self, deed):
        """Only the last note's row can be one that wasn't done."""
        if deed.done:
            self.inside.follow(deed.change)
        else:
            self.about = deed
        return ("again", deed.row)

    def do_deed(self, deed):
        change = deed.change
        if change.letter is not None and not self.letter_out:
            return self.send_once(deed)
        if change.file is not None:
            self.disk[change.file] = change.numbers
        self.inside.follow(change)
        self.all_done += 1
        deed.done = True
        self.about = None
        self.letter_out = False
        return ("does", deed.row)

    def send_once(self, deed):
        self.letter_out = True
        if len(self.out) > self.inside.letters:
            return ("skips", deed.row)
        self.out.append(deed.change.letter)
        return ("sends", deed.row)

    def go_on(self, row):
        """Looks at the end, the 1000 rows, often and faults, in this order, then at the row."""
        end = ended(self.rows, self.inside)
        if end is not None:
            return self.end_so(end)
        if self.often != 0 and self.inside.done - self.mark.done == self.often:
            return self.keep_mark()
        change = planned(self.rows[row], self.inside, self.disk, self.handed)
        if change.fault is not None:
            return self.end_so(("fault", change.fault))
        if self.rows[row][0] == "mark":
            self.inside.follow(change)
            self.all_done += 1
            return self.keep_mark()
        return self.begin_row(row, change)

    def begin_row(self, row, change):
        was = [] if change.file is None else self.disk[change.file]
        self.about = Deed(row, change, was)
        if self.way == "on" or change.file is not None:
            self.notes.append(self.about)
            return ("notes", row)
        return self.do_deed(self.about)

    def end_so(self, end):
        self.ending = end
        return ("ends", end)

    def keep_mark(self):
        self.mark = self.inside.twin()
        self.notes = []
        return ("marks", self.mark.row)

    def files(self):
        return [list(numbers) for numbers in self.disk]

    def sent(self):
        return list(self.out)

    def stands(self):
        """The row and the names within, or None when it has fallen."""
        if self.inside is None:
            return None
        return (self.inside.row, list(self.inside.names))

    def kept(self):
        """The mark's row, and how many notes there are behind it."""
        return (self.mark.row, len(self.notes))

    def end(self):
        return self.ending

    def steps(self):
        """How many rows were done in all, those again done too."""
        return self.all_done
