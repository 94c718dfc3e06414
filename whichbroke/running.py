"""Running a work on inputs."""

from whichbroke.works import given_of, need_given


def ran(work, given, told):
    """The digits of all lines, where some parts are told to give other digits."""
    need_given(work, given)
    ring, _, parts = work
    digits = list(given)
    for number, part in enumerate(parts):
        if number in told:
            digits.append(told[number])
        else:
            digits.append(given_of(part, digits, ring))
    return digits
