"""What parts come to, and what each row is going to do."""

REST = 10007
MOST_NUMBERS = 40


class Inside:
    """What is within a program at work: files and letters are not."""

    def __init__(self, names):
        self.row = 0
        self.names = [0] * names
        self.taken = 0
        self.done = 0
        self.letters = 0

    def follow(self, change):
        """Stands behind the row that the change is of."""
        if change.name is not None:
            self.names[change.name] = change.worth
        if change.letter is not None:
            self.letters += 1
        self.taken += change.takes
        self.row = change.follows
        self.done += 1

    def twin(self):
        """Another one like this, that knows nothing of it."""
        other = Inside(0)
        other.row = self.row
        other.names = list(self.names)
        other.taken = self.taken
        other.done = self.done
        other.letters = self.letters
        return other


class Change:
    """What a row is going to do; one with a fault does nothing."""

    def __init__(self, follows):
        self.follows = follows
        self.fault = None
        self.name = None
        self.worth = 0
        self.takes = 0
        self.file = None
        self.numbers = []
        self.letter = None

    def hold(self, name, worth):
        self.name = name
        self.worth = worth

    def fill(self, file, numbers):
        self.file = file
        self.numbers = numbers


def comes_to(part, names):
    word = part[0]
    if word == "num":
        return part[1]
    if word == "name":
        return names[part[1]]
    one = comes_to(part[1], names)
    other = comes_to(part[2], names)
    if word == "sum":
        return (one + other) % REST
    if word == "diff":
        return (one - other) % REST
    return 1 if one < other else 0


def plan_set(row, inside, files, handed, change):
    change.hold(row[1], comes_to(row[2], inside.names))


def plan_take(row, inside, files, handed, change):
    if inside.taken == len(handed):
        change.fault = "none"
    else:
        change.hold(row[1], handed[inside.taken])
        change.takes = 1


def plan_get(row, inside, files, handed, change):
    numbers = files[row[2]]
    place = comes_to(row[3], inside.names)
    if place >= len(numbers):
        change.fault = "place"
    else:
        change.hold(row[1], numbers[place])


def plan_size(row, inside, files, handed, change):
    change.hold(row[1], len(files[row[2]]))


def plan_add(row, inside, files, handed, change):
    numbers = files[row[1]]
    if len(numbers) == MOST_NUMBERS:
        change.fault = "full"
    else:
        change.fill(row[1], numbers + [comes_to(row[2], inside.names)])


def plan_put(row, inside, files, handed, change):
    numbers = list(files[row[1]])
    place = comes_to(row[2], inside.names)
    if place >= len(numbers):
        change.fault = "place"
    else:
        numbers[place] = comes_to(row[3], inside.names)
        change.fill(row[1], numbers)


def plan_cut(row, inside, files, handed, change):
    change.fill(row[1], files[row[1]][:comes_to(row[2], inside.names)])


def plan_send(row, inside, files, handed, change):
    change.letter = comes_to(row[1], inside.names)


def plan_go(row, inside, files, handed, change):
    change.follows = row[1]


def plan_unless(row, inside, files, handed, change):
    if inside.names[row[1]] == 0:
        change.follows = row[2]


def plan_mark(row, inside, files, handed, change):
    pass


PLANS = {
    "set": plan_set,
    "take": plan_take,
    "get": plan_get,
    "size": plan_size,
    "add": plan_add,
    "put": plan_put,
    "cut": plan_cut,
    "send": plan_send,
    "go": plan_go,
    "unless": plan_unless,
    "mark": plan_mark,
}


def planned(row, inside, files, handed):
    """The change that the row is going to make; nothing is changed by this yet."""
    change = Change(inside.row + 1)
    plan = PLANS[row[0]]
    plan(row, inside, files, handed, change)
    return change
