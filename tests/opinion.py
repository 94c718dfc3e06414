"""A plain second opinion on sets and clashes, which tries all sets and all digits."""

from itertools import product

from tests.samples import all_sets, part_rule


def odd_parts(work, row):
    """The parts that do not do as they should in these digits of all lines."""
    ring, inputs, parts = work
    return {number for number, part in enumerate(parts)
            if row[inputs + number] != part_rule(ring, part[0], [row[line] for line in part[1:]])}


def slow_digits(work, look):
    """All digits of all lines that go with what is given and seen, each with its odd parts."""
    ring, inputs, parts = work
    given, seen = look
    choices = [range(ring)] * len(parts)
    for line, digit in seen:
        choices[line - inputs] = (digit,)
    rows = [given + rest for rest in product(*choices)]
    return [(row, odd_parts(work, row)) for row in rows]


def slow_leaving(work, looks):
    """All sets that leave room for all of the looks, by trying all sets and all digits."""
    # Digits with the same odd parts leave room to the same sets, so each kind is tried once.
    kinds = [{frozenset(odd) for _, odd in slow_digits(work, look)} for look in looks]
    return [broken for broken in all_sets(work) if all(any(odd <= set(broken) for odd in kind) for kind in kinds)]


def in_order(sets):
    """Sets of parts by how many parts they have, then as Python orders tuples."""
    return sorted(sets, key=lambda each: (len(each), each))


def one_fewer(chosen):
    """The sets with one part fewer."""
    return [chosen[:at] + chosen[at + 1:] for at in range(len(chosen))]


def slow_least(sets):
    """Those of the sets of which none with a part fewer is one, in order."""
    known = set(sets)
    return in_order(each for each in known if not known & set(one_fewer(each)))


def slow_least_sets(work, looks):
    """The least sets of the looks, written apart from the program."""
    return slow_least(slow_leaving(work, looks))


def rest_of(work, chosen):
    """The parts that are not in a set."""
    return tuple(number for number in range(len(work[2])) if number not in chosen)


def slow_all_clashes(work, looks):
    """All clashes of the looks, the least ones and others."""
    leaving = set(slow_leaving(work, looks))
    return [chosen for chosen in all_sets(work) if rest_of(work, chosen) not in leaving]


def slow_clash(work, known, broken):
    """The told clash, all clashes being known, for a set that leaves no room, or None where it leaves room."""
    left = rest_of(work, broken)
    if left not in known:
        return None
    for number in rest_of(work, broken):
        fewer = tuple(other for other in left if other != number)
        if fewer in known:
            left = fewer
    return left


def slow_next_line(work, looks, number):
    """The line to see next at a look and its load, written apart from the program."""
    ring, inputs, parts = work
    sets = slow_least_sets(work, looks)
    rows = slow_digits(work, looks[number])
    loads = {}
    for line in range(inputs, inputs + len(parts)):
        showing = [{row[line] for row, odd in rows if odd <= set(broken)} for broken in sets]
        loads[line] = max(sum(digit in digits for digits in showing) for digit in range(ring))
    least = min(loads.values())
    return (min(line for line in loads if loads[line] == least), least)
