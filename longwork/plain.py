"""A program that is done from its beginning to its end, and never falls."""

from longwork.checks import check_handed, check_program
from longwork.rows import Inside, planned

MOST_DONE = 1000


def ended(rows, inside):
    """How it ends ahead of its next row, or None; faults show only with the row."""
    if inside.row == len(rows):
        return ("end",)
    if inside.done == MOST_DONE:
        return ("long",)
    return None


def do_change(change, files, sent):
    if change.file is not None:
        files[change.file] = change.numbers
    if change.letter is not None:
        sent.append(change.letter)


def run(program, handed):
    """Tells (files, sent, end, names, steps)."""
    check_program(program)
    check_handed(handed)
    names, many, rows = program
    files = [[] for number in range(many)]
    sent = []
    inside = Inside(names)
    end = ended(rows, inside)
    while end is None:
        change = planned(rows[inside.row], inside, files, handed)
        if change.fault is None:
            do_change(change, files, sent)
            inside.follow(change)
            end = ended(rows, inside)
        else:
            end = ("fault", change.fault)
    return (files, sent, end, inside.names, inside.done)
