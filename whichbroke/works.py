"""What a work, its inputs, its looks and its sets of parts are, and what a part gives."""

from whichbroke.errors import BadGiven, BadLook, BadSet, BadWork

TAKES = {"sum": 2, "stop": 2, "pick": 3, "not": 1}


def is_whole(thing, low, high):
    """Whether a thing is a whole number from low to high."""
    # Of all tests of a kind only "is" asks nothing of a thing: a kind may answer == in its own
    # way, and isinstance goes by what a thing says of its class, and lets True and False pass.
    return type(thing) is int and low <= thing <= high


def is_tuple_of(thing, length):
    """Whether a thing is a tuple of so many."""
    return type(thing) is tuple and len(thing) == length


def is_part(thing, line):
    """Whether a thing is a part that can give this line."""
    if type(thing) is not tuple or len(thing) == 0:
        return False
    word = thing[0]
    # A word is looked up only once it is a string: a list, say, cannot be looked up.
    if type(word) is not str or word not in TAKES:
        return False
    return len(thing) == TAKES[word] + 1 and all([is_whole(taken, 0, line - 1) for taken in thing[1:]])


def is_work(thing):
    """Whether a thing is a work."""
    if not is_tuple_of(thing, 3):
        return False
    ring, inputs, parts = thing
    if not is_whole(ring, 2, 5) or not is_whole(inputs, 1, 6):
        return False
    if type(parts) is not list or not 1 <= len(parts) <= 10:
        return False
    return all([is_part(part, inputs + number) for number, part in enumerate(parts)])


def is_digit(work, thing):
    """Whether a thing is a digit of the work."""
    return is_whole(thing, 0, work[0] - 1)


def is_line(work, thing):
    """Whether a thing is a line of the work, an input's or a part's."""
    _, inputs, parts = work
    return is_whole(thing, 0, inputs + len(parts) - 1)


def is_line_of_part(work, thing):
    """Whether a thing is a line that a part of the work gives."""
    _, inputs, parts = work
    return is_whole(thing, inputs, inputs + len(parts) - 1)


def is_given(work, thing):
    """Whether a thing is the inputs of the work."""
    return is_tuple_of(thing, work[1]) and all([is_digit(work, digit) for digit in thing])


def is_pair(work, thing):
    """Whether a thing is a pair of a part's line and a digit."""
    return is_tuple_of(thing, 2) and is_line_of_part(work, thing[0]) and is_digit(work, thing[1])


def rises(numbers):
    """Whether each number is beyond the one ahead of it."""
    return all([ahead < behind for ahead, behind in zip(numbers, numbers[1:])])


def is_seen(work, thing):
    """Whether a thing is a tuple of pairs whose lines rise."""
    if type(thing) is not tuple or not all([is_pair(work, pair) for pair in thing]):
        return False
    return rises([pair[0] for pair in thing])


def is_look(work, thing):
    """Whether a thing is a look at the work."""
    return is_tuple_of(thing, 2) and is_given(work, thing[0]) and is_seen(work, thing[1])


def is_set(work, thing):
    """Whether a thing is a set of parts of the work."""
    highest = len(work[2]) - 1
    if type(thing) is not tuple or not all([is_whole(number, 0, highest) for number in thing]):
        return False
    return rises(thing)


def need_work(thing):
    """True of a work; BadWork of anything else."""
    if not is_work(thing):
        raise BadWork("no work")
    return True


def need_given(work, thing):
    """True of the inputs of a work; BadGiven of anything else."""
    if not is_given(work, thing):
        raise BadGiven("no inputs of the work")
    return True


def need_look(work, thing):
    """True of a look at a work; BadLook of anything else."""
    if not is_look(work, thing):
        raise BadLook("no look at the work")
    return True


def need_set(work, thing):
    """True of a set of parts of a work; BadSet of anything else."""
    if not is_set(work, thing):
        raise BadSet("no set of parts of the work")
    return True


def given_of(part, digits, ring):
    """The digit that a part gives, by the digits of the lines ahead of it."""
    word = part[0]
    taken = [digits[line] for line in part[1:]]
    if word == "sum":
        return (taken[0] + taken[1]) % ring
    if word == "stop":
        return taken[0] if taken[1] == 0 else 0
    if word == "pick":
        return taken[1] if taken[0] == 0 else taken[2]
    return ring - 1 - taken[0]
