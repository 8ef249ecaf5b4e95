"""Texts that are nearly sheets, and the first wrong line of a text by the words of point 154."""

import re

ODD_LINES = ("", " ", "end", "end ", " end", "End", "x", "run", "solid 2", "values", "value a 1", "sketch 0 0", "configuration 0",
             "chosen 0", "chosen -0", "added 0 0 0", "own 1 a 1", "point 0 0", "line 0 0 1", "disc 0 0 1", "end\r", "#", "0")


def numbers_changed(line):
    """The line with each of its numbers in turn written or chosen otherwise."""
    for found in re.finditer(r"-?\d+", line):
        before, number, after = line[:found.start()], found.group(), line[found.end():]
        others = ["0" + number, "-" + number, "+" + number, " " + number, number + " ", "", "1_0", number + ".0", number + "0" * 5000,
                  "-0", "00", "0x1", "\u0661", "\u00b2", "a", "9" * 40]
        others += [str(int(number) + by) for by in (-100, -24, -2, -1, 1, 2, 7, 24, 100, 200)] + ["0", "6", "7"]
        for other in others:
            yield before + other + after


def line_changed(line):
    """The line changed in some way."""
    yield from numbers_changed(line)
    yield from (line + " ", " " + line, line.replace(" ", "  ", 1), line.replace(" ", "\t", 1), line.replace(" ", "", 1), line.upper(),
                line + " 0", line + " 1", line + "\r", line[:-1], line[1:], line.rpartition(" ")[0], line + "\x0b", line + "\u2028")


def changes(text, rng=None, many=None):
    """Texts that differ from a sheet; if many is given, only so many of each sort, by chance."""
    lines = text.split("\n")
    places = list(range(len(lines)))
    if many is not None:
        places = rng.sample(places, min(many, len(places)))
    for at in places:
        before, line, after = lines[:at], lines[at], lines[at + 1:]
        yield "\n".join(before)
        yield "\n".join(before + after)
        yield "\n".join(before + [line, line] + after)
        if after:
            yield "\n".join(before + [after[0], line] + after[1:])
        for other in places:
            yield "\n".join(before + [lines[other]] + after)
            yield "\n".join(before + [lines[other], line] + after)
        for other in ODD_LINES:
            yield "\n".join(before + [other] + after)
            yield "\n".join(before + [other, line] + after)
        changed = list(line_changed(line))
        for other in changed if many is None else rng.sample(changed, min(8 * many, len(changed))):
            yield "\n".join(before + [other] + after)
    yield from (text + "\n", text + "\nend", "\n" + text, text + " ", text + "\n\n", text.replace("\n", "\r\n"), text * 2, "")


def first_wrong_line(text, is_beginning, is_sheet):
    """None for a sheet. The tests give what a row of lines is."""
    lines = tuple(text.split("\n"))
    for many in range(1, len(lines) + 1):
        if not is_beginning(lines[:many]):
            return many
    return None if is_sheet(lines) else len(lines) + 1


def answer(read, text):
    """The line that reading a text names, or None if it is a sheet."""
    from partloft.errors import InvalidSheet
    try:
        read(text)
    except InvalidSheet as error:
        return error.line
    return None
