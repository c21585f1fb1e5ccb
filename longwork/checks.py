"""What is let by of what is handed in: programs, numbers, ways, and how often marks are kept."""

from longwork.errors import BadHanded, BadOften, BadProgram, BadWay

MOST_NAMES = 8
MOST_FILES = 4
MOST_ROWS = 60
MOST_HANDED = 40
MOST_DEEP = 3
MOST_OFTEN = 99
TOP = 10006

# A place's kind is also the word by which it is refused.
PLACES = {
    "set": ("name", "part"),
    "take": ("name",),
    "get": ("name", "file", "part"),
    "size": ("name", "file"),
    "add": ("file", "part"),
    "put": ("file", "part", "part"),
    "cut": ("file", "part"),
    "send": ("part",),
    "go": ("row",),
    "unless": ("name", "row"),
    "mark": (),
}


def is_number(thing, low, high):
    """True and False are integers for Python, but no numbers here."""
    return isinstance(thing, int) and not isinstance(thing, bool) and low <= thing <= high


def is_part(part, names, deep):
    """Whether this is a part of at most so many things, one within another."""
    if deep == 0 or not isinstance(part, tuple):
        return False
    if len(part) == 2:
        return is_single(part, names)
    if len(part) != 3 or part[0] not in ("sum", "diff", "less"):
        return False
    return is_part(part[1], names, deep - 1) and is_part(part[2], names, deep - 1)


def is_single(part, names):
    if part[0] == "num":
        return is_number(part[1], 0, TOP)
    return part[0] == "name" and is_number(part[1], 0, names - 1)


def has_shape(row):
    # A list can't be looked up in a dict, so the word must be a text first.
    if not isinstance(row, tuple) or len(row) == 0 or not isinstance(row[0], str):
        return False
    return row[0] in PLACES and len(row) == 1 + len(PLACES[row[0]])


def is_place(place, kind, program):
    names, files, rows = program
    if kind == "name":
        return is_number(place, 0, names - 1)
    if kind == "file":
        return is_number(place, 0, files - 1)
    if kind == "row":
        return is_number(place, 0, len(rows))
    return is_part(place, names, MOST_DEEP)


def check_row(number, row, program):
    if number == MOST_ROWS:
        raise BadProgram(number, "many")
    if not has_shape(row):
        raise BadProgram(number, "shape")
    for place, kind in zip(row[1:], PLACES[row[0]]):
        if not is_place(place, kind, program):
            raise BadProgram(number, kind)


def check_program(program):
    """Refuses what is no program, by the first thing that can't be."""
    if not isinstance(program, tuple) or len(program) != 3 or not isinstance(program[2], tuple):
        raise BadProgram(-1, "shape")
    names, files, rows = program
    if not is_number(names, 1, MOST_NAMES):
        raise BadProgram(-1, "names")
    if not is_number(files, 1, MOST_FILES):
        raise BadProgram(-1, "files")
    for number, row in enumerate(rows):
        check_row(number, row, program)


def check_handed(handed):
    if not isinstance(handed, list) or len(handed) > MOST_HANDED:
        raise BadHanded("what is handed in is no list of at most 40 numbers")
    for number in handed:
        if not is_number(number, 0, TOP):
            raise BadHanded("what is handed in has a thing that is no number from 0 to 10006")


def check_way(way):
    if way not in ("back", "on"):
        raise BadWay("the way is neither back nor on")


def check_often(often):
    if not is_number(often, 0, MOST_OFTEN):
        raise BadOften("how often marks are kept is no number from 0 to 99")
