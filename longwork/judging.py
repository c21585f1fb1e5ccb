"""Whether a log can be what a work told, falls among it."""

from longwork.checks import is_number
from longwork.errors import BadLog
from longwork.works import Work

MOST_ENTRIES = 3000
MOST_ROW = 60
FALL = ("fall",)
NUMBERED = ("back", "rises", "again", "sends", "skips", "does", "marks", "notes")
ENDS = (("end",), ("long",), ("fault", "none"), ("fault", "full"), ("fault", "place"))


def is_entry(entry):
    if not isinstance(entry, tuple):
        return False
    if len(entry) == 2 and entry[0] == "ends":
        return entry[1] in ENDS
    if len(entry) == 2 and entry[0] in NUMBERED:
        return is_number(entry[1], 0, MOST_ROW)
    return entry in (FALL, ("rests",))


def check_log(log):
    if not isinstance(log, list):
        raise BadLog(0)
    for number, entry in enumerate(log):
        if number == MOST_ENTRIES or not is_entry(entry):
            raise BadLog(number)


def judged(program, handed, way, often, log):
    """The number of the first entry that can't be behind those ahead, or None."""
    work = Work(program, handed, way, often)
    check_log(log)
    for number, entry in enumerate(log):
        if entry == FALL:
            work.fall()
        elif work.move() != entry:
            return number
    return None
