"""Machines that begin anew: the round to which they come, and what is over in long runs."""

from onebreath.checks import check_count
from onebreath.engine import checked_run
from onebreath.errors import TooMany

MOST_AFTER = 10 ** 12
MOST_ROUND = 5000


def period(world, rule):
    """Return (first, long, counts) of the round to which the machines come."""
    run = checked_run(world, rule, True)
    first, tallies = come_round(run)
    return first, len(tallies) - 1 - first, tuple(gained(tallies[first], tallies[-1]))


def after(world, rule, many):
    """Return how many steps of each machine are over in the first `many` beats."""
    run = checked_run(world, rule, True)
    check_count(many, 0, MOST_AFTER)
    first, tallies = come_round(run)
    if many < len(tallies):
        return list(tallies[many])
    counts = gained(tallies[first], tallies[-1])
    times, more = divmod(many - first, len(tallies) - 1 - first)
    return [had + times * count for had, count in zip(tallies[first + more], counts)]


def come_round(run):
    """Return (first, tallies): for each beat, how many steps of each machine are over ahead of it.

    The last tally is that of the beat ahead of which all is as it was ahead of beat `first`.
    """
    tally = [0] * len(run.machines)
    tallies = [tuple(tally)]
    seen = {}
    while run.beat < MOST_ROUND:
        over, _ = run.do_beat()
        for number in over:
            tally[number] += 1
        tallies.append(tuple(tally))
        picture = picture_of(run)
        if picture in seen:
            return seen[picture], tallies
        seen[picture] = run.beat
    raise TooMany(f"no round is done up to beat {MOST_ROUND}")


def gained(early, late):
    """Return by how much each number of the later tally is above that of the earlier one."""
    return [most - least for least, most in zip(early, late)]


def picture_of(run):
    """Return all that is alike ahead of two beats, if all goes on alike from them."""
    # Ahead of a beat at which a step is over, 0 is left of it: that is not yet waiting.
    doing = [(machine.at, machine.left(run.beat)) for machine in run.machines]
    return run.have, tuple(doing), memory_of(run)


def memory_of(run):
    """Return what the right itself goes by: who drew last, or who waits longer than whom."""
    if run.right == "turns":
        return run.last
    if run.right == "wait":
        return tuple([place_of(machine, run.waiting()) for machine in run.machines])
    return None


def place_of(machine, waiting):
    """Return how many wait longer than this machine, None if it doesn't wait."""
    if not machine.is_waiting():
        return None
    return len([other for other in waiting if other.since < machine.since])
