"""A world's beats: what is done at each, when the machines end, and how long they wait."""

from onebreath.checks import check_count
from onebreath.engine import checked_run

MOST_BEATS = 500


def beats(world, rule, many):
    """Return, of the first `many` beats, (how much is there behind it, who began, in turn)."""
    run = checked_run(world, rule, False)
    check_count(many, 0, MOST_BEATS)
    told = []
    for _ in range(many):
        _, begun = run.do_beat()
        told.append((run.have, begun))
    return told


def ends(world, rule):
    """Return for each machine the beat at which its last step is over, None if it never is."""
    run = checked_run(world, rule, False)
    run_out(run)
    return [machine.since if machine.is_done() else None for machine in run.machines]


def waits(world, rule):
    """Return for each machine in how many beats it wanted to draw and didn't, None likewise."""
    run = checked_run(world, rule, False)
    waited = run_out(run)
    return [waited[machine.number] if machine.is_done() else None for machine in run.machines]


def run_out(run):
    """Do beats until nothing more is done; return in how many each machine waited in vain."""
    waited = [0] * len(run.machines)
    still = False
    while not still:
        run.do_beat()
        for machine in run.waiting():
            waited[machine.number] += 1
        still = run.is_still()
    return waited
