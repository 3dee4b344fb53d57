"""Looks at what is handed in, and refuses what can't be."""

from onebreath.errors import BadCount, BadRule, BadStep, BadStore
from onebreath.rights import RIGHTS

MOST_CAP = 99
MOST_REFILL = 9
MOST_MACHINES = 5
MOST_STEPS = 6
MOST_LONG = 9


def check_world(world):
    """Refuse a world with a store or a step that can't be."""
    store, machines = world
    check_store(store)
    cap = store[0]
    for number, steps in enumerate(machines[:MOST_MACHINES]):
        check_steps(number, steps, cap)
    if len(machines) > MOST_MACHINES:
        raise BadStep(machine=MOST_MACHINES, step=0)


def check_store(store):
    """Refuse a store that isn't (cap, start, refill) within the limits."""
    if len(store) != 3:
        raise BadStore("a store is (cap, start, refill)")
    cap, start, refill = store
    if not 1 <= cap <= MOST_CAP:
        raise BadStore(f"the cap {cap} is not 1 to {MOST_CAP}")
    if not 0 <= start <= cap:
        raise BadStore(f"the start {start} is not 0 to the cap {cap}")
    if not 0 <= refill <= MOST_REFILL:
        raise BadStore(f"the refill {refill} is not 0 to {MOST_REFILL}")


def check_steps(number, steps, cap):
    """Refuse the steps of the machine of this number, if one of them can't be."""
    for at, step in enumerate(steps[:MOST_STEPS]):
        if not is_step(step, cap):
            raise BadStep(machine=number, step=at)
    if len(steps) > MOST_STEPS:
        raise BadStep(machine=number, step=MOST_STEPS)


def is_step(step, cap):
    """Tell whether this is (draw, long, back) within the limits, for a store of this cap."""
    if len(step) != 3:
        return False
    draw, long, back = step
    return 0 <= draw <= cap and 1 <= long <= MOST_LONG and 0 <= back <= draw


def check_rule(rule):
    """Refuse a rule that isn't (right, passing) with a right that there is."""
    if len(rule) != 2:
        raise BadRule("a rule is (right, passing)")
    if rule[0] not in RIGHTS:
        raise BadRule(f"there is no right {rule[0]}")


def check_count(many, least, most):
    """Refuse a count that isn't from `least` to `most`."""
    if not least <= many <= most:
        raise BadCount(f"{many} is not {least} to {most}")
