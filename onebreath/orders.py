"""Orders: machines that do all their steps alone, each behind the other, without refill."""

from itertools import permutations

from onebreath.checks import check_count, check_world


def need_of(world, machine):
    """Return (least, less): how much must be there for the machine, and how much less is then."""
    check_world(world)
    _, machines = world
    check_count(machine, 0, len(machines) - 1)
    return need_of_steps(machines[machine])


def order(world):
    """Return the first order, as lists go, in which all machines can; None if there's none."""
    check_world(world)
    store, machines = world
    needs = [need_of_steps(steps) for steps in machines]
    for turn in permutations(range(len(needs))):
        if least_of_turn(needs, turn) <= store[1]:
            return list(turn)
    return None


def least_start(world):
    """Return how much must be there at first that there's an order; None beyond the cap."""
    check_world(world)
    store, machines = world
    needs = [need_of_steps(steps) for steps in machines]
    least = min([least_of_turn(needs, turn) for turn in permutations(range(len(needs)))])
    return least if least <= store[0] else None


def need_of_steps(steps):
    """Return (least, less) of a machine with these steps."""
    return need_in_line([(draw, draw - back) for draw, _, back in steps])


def least_of_turn(needs, turn):
    """Return how much must be there for the machines of these needs in this turn."""
    least, _ = need_in_line([needs[number] for number in turn])
    return least


def need_in_line(needs):
    """Return (least, less) of all these needs, each behind the other."""
    all_least = 0
    all_less = 0
    for least, less in needs:
        all_least = max(all_least, all_less + least)
        all_less += less
    return all_least, all_less
