"""The rights: in which turn those that wait may draw in a beat."""

RIGHTS = ("rank", "turns", "wait", "least")


def in_turn(right, last, waiting):
    """Return the numbers of the machines `waiting`, which rise, in the turn of this right.

    `last` is the number of the machine that drew last ahead of this beat, None before any drew.
    """
    if right == "wait":
        return least_first([(machine.since, machine.number) for machine in waiting])
    if right == "least":
        return least_first([(machine.need(), machine.number) for machine in waiting])
    numbers = [machine.number for machine in waiting]
    if right == "turns" and last is not None:
        return behind_first(last, numbers)
    return numbers


def least_first(pairs):
    """Return the numbers of the pairs (measure, number): the least measure first, then number."""
    return [number for _, number in sorted(pairs)]


def behind_first(last, numbers):
    """Return the numbers behind `last`, then the others."""
    return [number for number in numbers if number > last] + [number for number in numbers if number <= last]
