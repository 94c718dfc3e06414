"""The clashes of looks: parts that cannot all be whole."""

from whichbroke.errors import HasRoom
from whichbroke.leastsets import least_of, least_sets
from whichbroke.rooms import rooms
from whichbroke.works import need_set


def others(work, numbers):
    """The parts of the work that are not among these."""
    return tuple([number for number in range(len(work[2])) if number not in numbers])


def meets_all(chosen, sets):
    """Whether a set of parts has a part with each of the sets."""
    return all([any([number in chosen for number in known]) for known in sets])


def clash(work, looks, broken):
    """The least clash that is got from the parts that are not in a set without room."""
    need_set(work, broken)
    if rooms(work, looks, broken) is not None:
        raise HasRoom("the set leaves room for the looks")
    left = others(work, broken)
    for number in others(work, broken):
        rest = tuple([other for other in left if other != number])
        if rooms(work, looks, others(work, rest)) is None:
            left = rest
    return left


def clashes(work, looks):
    """All least clashes of the looks, in order."""
    sets = least_sets(work, looks)
    # Parts that meet each least set leave none of these to the other parts, which then have
    # no room; parts that miss one leave it to them. So just those that meet them all clash.
    return least_of(len(work[2]), lambda chosen: meets_all(chosen, sets))
