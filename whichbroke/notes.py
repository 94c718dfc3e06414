"""Works written as texts, and read from them."""

from whichbroke.errors import BadText
from whichbroke.works import is_work


def written(work):
    """The text that is written of a work."""
    ring, inputs, parts = work
    rows = [("ring", ring, "inputs", inputs), *parts]
    return "\n".join([" ".join([str(word) for word in row]) for row in rows])


def number_of(word):
    """The whole number that a word writes, or None."""
    # No number of a work has more signs, and int fails in its own way of thousands of them.
    if len(word) > 2 or not word.isascii() or not word.isdigit():
        return None
    return int(word)


def part_of(row):
    """What would be the part that a row writes, if it writes one."""
    word, *lines = row.split(" ")
    return (word, *[number_of(line) for line in lines])


def read(text):
    """The work that a text writes; BadText of a text that is not written of a work."""
    first, *rest = text.split("\n")
    head = first.split(" ")
    if len(head) != 4:
        raise BadText("no first row of a work")
    work = (number_of(head[1]), number_of(head[3]), [part_of(row) for row in rest])
    # Writing it once more tells other ways to write the same work, and other words in the first row.
    if not is_work(work) or written(work) != text:
        raise BadText("not what is written of a work")
    return work
