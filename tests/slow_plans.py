"""A second model of plans, from the document's words, for the tests to compare.

It shares no code with the package. A plan is judged by looking back at all that began; the states
that come by are kept whole for each beat, those seen before too.
"""

from itertools import combinations


def there(world, begun, beat):
    """How much is there at this beat behind refill and draws; begun are (who, step, at, over)."""
    (cap, here, refill), machines = world
    for now in range(beat + 1):
        for who, step, _, over in sorted(begun):
            if over == now:
                here = min(cap, here + machines[who][step][2])
        if now:
            here = min(cap, here + refill)
        here -= sum([machines[who][step][0] for who, step, at, _ in begun if at == now])
    return here


def row_can_be(world, begun, beat, row):
    machines = world[1]
    if list(row) != sorted(set(row)) or [who for who in row if who not in range(len(machines))]:
        return False
    need = 0
    for who in row:
        mine = [one for one in begun if one[0] == who]
        if len(mine) == len(machines[who]) or [one for one in mine if one[3] > beat]:
            return False
        need += machines[who][len(mine)][0]
    return need <= there(world, begun, beat)


def slow_judged(world, plan):
    """As `judged`, but ("BadPlan", beat) for what is refused."""
    machines = world[1]
    begun = []
    for beat, row in enumerate(plan):
        if beat == 500 or not row_can_be(world, begun, beat, row):
            return ("BadPlan", beat)
        for who in row:
            step = len([one for one in begun if one[0] == who])
            begun.append((who, step, beat, beat + machines[who][step][1]))
    if len(begun) < sum([len(steps) for steps in machines]):
        return None
    return max([0] + [one[3] for one in begun])


def later_states(world, state, beat):
    """All states ahead of the next beat, by whatever row, if this is the state ahead of this one."""
    (cap, _, refill), machines = world
    here, doing = state
    now = []
    for who, (kind, step, left) in enumerate(doing):
        if kind == "does" and left == 0:
            here = min(cap, here + machines[who][step][2])
            last = step + 1 == len(machines[who])
            now.append(("end" if last else "waits", step + 1, None))
        else:
            now.append((kind, step, left))
    if beat:
        here = min(cap, here + refill)
    waiting = [who for who, (kind, _, _) in enumerate(now) if kind == "waits"]
    for many in range(len(waiting) + 1):
        for row in combinations(waiting, many):
            need = sum([machines[who][now[who][1]][0] for who in row])
            if need <= here:
                yield here - need, tuple([behind(world, who, now[who], who in row) for who in range(len(now))])


def behind(world, who, look, begins):
    kind, step, left = look
    if begins:
        return ("does", step, world[1][who][step][1] - 1)
    if kind == "does":
        return ("does", step, left - 1)
    return look


def is_end(world, state):
    """Whether all steps are over at the beat that this state is ahead of."""
    for who, (kind, step, left) in enumerate(state[1]):
        if kind == "waits" or (kind == "does" and (left > 0 or step + 1 < len(world[1][who]))):
            return False
    return True


def slow_fewest(world, most):
    """(soonest beat or None, how many states come by up to there); None for more than `most`."""
    first = tuple([("waits", 0, None) if steps else ("end", 0, None) for steps in world[1]])
    level = {(world[0][1], first)}
    if is_end(world, (world[0][1], first)):
        return 0, 1
    union = set()
    beat = 0
    while True:
        level = {later for state in level for later in later_states(world, state, beat)}
        beat += 1
        grown = union | level
        if 1 + len(grown) > most:
            return None
        if [state for state in level if is_end(world, state)]:
            return beat, 1 + len(grown)
        if len(grown) == len(union):
            return None, 1 + len(union)
        union = grown
