"""Programs as texts."""

from longwork.checks import PLACES, check_program
from longwork.errors import BadText

MOST_FIGURES = 5


def part_text(part):
    word = part[0]
    if word == "num":
        return str(part[1])
    if word == "name":
        return f"n{part[1]}"
    return f"{word} {part_text(part[1])} {part_text(part[2])}"


def place_text(place, kind):
    if kind == "part":
        return part_text(place)
    if kind == "name":
        return f"n{place}"
    return str(place)


def row_text(row):
    words = [row[0]]
    for place, kind in zip(row[1:], PLACES[row[0]]):
        words.append(place_text(place, kind))
    return " ".join(words)


def written(program):
    """The program's text, without a line end behind its last row."""
    check_program(program)
    names, files, rows = program
    return "\n".join([f"work {names} {files}"] + [row_text(row) for row in rows])


def read_number(word):
    """The number that the word is, or None."""
    if len(word) > MOST_FIGURES or not word.isascii() or not word.isdigit():
        return None
    if len(word) > 1 and word[0] == "0":
        return None
    return int(word)


def read_name(word):
    if not word.startswith("n"):
        return None
    return read_number(word[1:])


def read_single(word):
    """The part that this one word is, or None."""
    name = read_name(word)
    if name is not None:
        return ("name", name)
    number = read_number(word)
    if number is not None:
        return ("num", number)
    return None


def read_parts(words):
    """The parts that the words are, or None.

    From the last word on, as both parts of a word are known then: so nothing calls itself,
    however deep the parts are.
    """
    parts = []
    for word in reversed(words):
        if word in ("sum", "diff", "less"):
            if len(parts) < 2:
                return None
            one = parts.pop()
            other = parts.pop()
            parts.append((word, one, other))
        else:
            parts.append(read_single(word))
            if parts[-1] is None:
                return None
    return parts[::-1]


def read_row(words):
    """The row that the words are, or None."""
    if words[0] not in PLACES:
        return None
    kinds = PLACES[words[0]]
    # In each row the parts come last, and each place ahead of them is one word.
    ahead = [kind for kind in kinds if kind != "part"]
    places = []
    for word, kind in zip(words[1:], ahead):
        places.append(read_name(word) if kind == "name" else read_number(word))
    parts = read_parts(words[1 + len(ahead):])
    if parts is None or None in places or len(places) + len(parts) != len(kinds):
        return None
    return (words[0], *places, *parts)


def read_head(words):
    """The numbers of names and files, or None."""
    if len(words) != 3 or words[0] != "work":
        return None
    names = read_number(words[1])
    files = read_number(words[2])
    if names is None or files is None:
        return None
    return (names, files)


def read(text):
    """The program of which this is the text."""
    if not isinstance(text, str):
        raise BadText(0)
    found = []
    for number, line in enumerate(text.split("\n")):
        words = line.split(" ")
        found.append(read_head(words) if number == 0 else read_row(words))
        if found[-1] is None:
            raise BadText(number)
    names, files = found[0]
    program = (names, files, tuple(found[1:]))
    check_program(program)
    return program
