"""Programs for the tests, some by hand and many by a seed, and ways to go through a work."""

import random

from longwork.works import Work

ONE = ("num", 1)
FALL = ("fall",)
ALL_WORDS = (2, 2, (
    ("take", 0), ("add", 0, ("name", 0)), ("add", 1, ("sum", ("name", 0), ONE)), ("put", 1, ("num", 0), ("num", 9)),
    ("get", 1, 1, ("num", 0)), ("size", 0, 0), ("cut", 0, ("num", 0)), ("send", ("name", 1)), ("mark",),
    ("unless", 0, 11), ("go", 11), ("set", 0, ("less", ("num", 0), ONE)),
))
# Each takes numbers until a 0 comes; it changes and reads files, and sends what it read.
TAKING = (2, 2, (
    ("take", 0), ("unless", 0, 9), ("add", 0, ("name", 0)), ("size", 1, 0), ("add", 1, ("sum", ("name", 1), ONE)),
    ("put", 0, ("num", 0), ("sum", ("name", 0), ("name", 1))), ("get", 1, 0, ("num", 0)), ("send", ("name", 1)),
    ("go", 0), ("cut", 1, ONE),
))
TAKING_WITH_MARKS = (2, 2, (
    ("mark",), ("take", 0), ("unless", 0, 10), ("add", 0, ("name", 0)), ("send", ("name", 0)), ("mark",),
    ("get", 1, 0, ("num", 0)), ("put", 0, ("num", 0), ("sum", ("name", 1), ONE)), ("send", ("name", 1)), ("go", 0),
    ("cut", 0, ONE), ("mark",),
))


def counted(rounds, *behind):
    """A program that goes round so often, four rows each, then does the rows behind."""
    turn = (
        ("set", 1, ("less", ("name", 0), ("num", rounds))),
        ("unless", 1, 4),
        ("set", 0, ("sum", ("name", 0), ONE)),
        ("go", 0),
    )
    return (2, 1, turn + behind)


def some_part(chance, names, deep):
    pick = chance.randrange(6 if deep > 1 else 4)
    if pick < 2:
        return ("num", chance.choice((0, 0, 1, 1, 2, 3, 10006)))
    if pick < 4:
        return ("name", chance.randrange(names))
    word = chance.choice(("sum", "diff", "less"))
    return (word, some_part(chance, names, deep - 1), some_part(chance, names, deep - 1))


def some_row(chance, names, files, many):
    name, file = chance.randrange(names), chance.randrange(files)
    one, other = some_part(chance, names, 3), some_part(chance, names, 3)
    return chance.choice((
        ("set", name, one), ("take", name), ("get", name, file, ("num", 0)), ("get", name, file, one),
        ("size", name, file), ("add", file, one), ("add", file, one), ("add", file, one), ("put", file, ("num", 0), one),
        ("put", file, one, other), ("cut", file, one), ("send", one), ("send", one), ("send", one), ("mark",),
        ("go", chance.randrange(many + 1)), ("unless", name, chance.randrange(many + 1)),
        ("unless", name, chance.randrange(many + 1)),
    ))


def some_program(chance):
    names, files, many = chance.randint(1, 3), chance.randint(1, 3), chance.randint(0, 14)
    # Many programs begin with full files, or else most would soon end by a fault.
    first = tuple(("add", file, ("num", 5 + file)) for file in range(files)) if chance.randrange(3) else ()
    many += len(first)
    return (names, files, first + tuple(some_row(chance, names, files, many) for row in range(len(first), many)))


def some_cases(seed, many):
    """So many (program, handed, way, often)."""
    chance = random.Random(seed)
    found = []
    for case in range(many):
        handed = [chance.choice((0, 1, 2, 7, 10006)) for number in range(chance.randrange(12))]
        often = chance.choice((0, 1, 2, 3, 5, 9, 98, 99))
        found.append((some_program(chance), handed, ("back", "on")[case % 2], often))
    return found


def move_on(work):
    """All that is told until it has ended, that too."""
    log = []
    while work.end() is None:
        log.append(work.move())
    return log


def log_with_falls(case, falls):
    """What a work of this case told until it ended, falling ahead of entries of these numbers."""
    work = Work(*case)
    log = []
    while work.end() is None:
        if len(log) in falls:
            work.fall()
            log.append(FALL)
        else:
            log.append(work.move())
    return log
