"""The least sets of parts whose breaking leaves room for looks."""

from itertools import combinations

from whichbroke.rooms import rooms


def has_all(chosen, numbers):
    """Whether a set of parts has all of these parts in it."""
    return all([number in chosen for number in numbers])


def least_of(many, fits):
    """The least of the sets of so many parts that fit, in order.

    A set that has one that fits in it must fit, too.
    """
    least = []
    for size in range(many + 1):
        for chosen in combinations(range(many), size):
            # With one of the told ones in it, a set fits, but parts can be left out of it.
            if not any([has_all(chosen, known) for known in least]) and fits(chosen):
                least.append(chosen)
    return least


def least_sets(work, looks):
    """The least sets of parts that leave room for the looks, in order."""
    return least_of(len(work[2]), lambda broken: rooms(work, looks, broken) is not None)
