"""The room that a set of broken parts leaves for looks, and the digits that it may show."""

from whichbroke.errors import NoLine
from whichbroke.works import given_of, is_line, need_look, need_set


def lines_in_use(work, wanted, broken, kept):
    """For each part, the parts' lines up to its own on which anything behind it hangs.

    The digits wanted of lines, and the kept lines, are what is asked for. A line hangs on
    those that its part takes, but not where the part is broken, and what nothing that is
    asked for hangs on cannot matter.
    """
    _, inputs, parts = work
    used = {line: True for line in kept}
    in_use = []
    for number in reversed(range(len(parts))):
        line = inputs + number
        in_use.append([at for at in range(inputs, line + 1) if at in used])
        if number not in broken and (line in used or line in wanted):
            for taken in parts[number][1:]:
                used[taken] = True
    in_use.reverse()
    return in_use


def fitting_digits(work, row, wanted, broken):
    """The digits that the next line may have behind a row of digits, rising."""
    ring, inputs, parts = work
    line = len(row)
    number = line - inputs
    if number in broken:
        fitting = list(range(ring))
    else:
        fitting = [given_of(parts[number], row, ring)]
    if line in wanted:
        return [digit for digit in fitting if digit == wanted[line]]
    return fitting


def thinned(rows, lines):
    """The first of the rows for each way in which these lines can stand."""
    first = {}
    for row in rows:
        first.setdefault(tuple([row[line] for line in lines]), row)
    return list(first.values())


def rows_of(work, look, broken, kept):
    """The least digits of all lines for each way in which the kept lines can stand, rising."""
    given, seen = look
    wanted = {line: digit for line, digit in seen}
    rows = [given]
    for lines in lines_in_use(work, wanted, broken, kept):
        longer = [(*row, digit) for row in rows for digit in fitting_digits(work, row, wanted, broken)]
        # Rows that are alike on the lines in use can go on alike, and the least of them stays
        # the least: without the others there are few rows, however many parts are broken.
        rows = thinned(longer, lines)
    return rows


def least_room(work, look, broken):
    """The told room for a look, or None: the look and the set are right already."""
    rows = rows_of(work, look, broken, ())
    return rows[0] if rows else None


def room(work, look, broken):
    """The least digits of all lines with which the set leaves room for the look, or None."""
    need_look(work, look)
    need_set(work, broken)
    return least_room(work, look, broken)


def rooms(work, looks, broken):
    """The room for each of the looks, or None where there is none for one of them."""
    need_set(work, broken)
    found = []
    for look in looks:
        digits = least_room(work, look, broken)
        if digits is None:
            return None
        found.append(digits)
    return found


def shown(work, look, broken, line):
    """The digits that a line may have at the look with the set broken, rising."""
    need_look(work, look)
    need_set(work, broken)
    if not is_line(work, line):
        raise NoLine("no line of the work")
    rows = rows_of(work, look, broken, (line,))
    return sorted({row[line] for row in rows})
