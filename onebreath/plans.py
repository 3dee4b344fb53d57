"""Plans: who begins at which beat without a rule, and how soon all can be over."""

from onebreath.checks import check_world
from onebreath.engine import BACK, DRAW, LONG, Shop
from onebreath.errors import BadPlan, TooMany

MOST_ROWS = 500
MOST_STATES = 4000


def judged(world, plan):
    """Return the beat at which the last step is over by this plan, None if it ends too early."""
    check_world(world)
    shop = Shop(world, False)
    for beat, row in enumerate(plan):
        shop.open_beat()
        if beat == MOST_ROWS or not can_begin(shop, row):
            raise BadPlan(beat=beat)
        for number in row:
            shop.begin(shop.machines[number])
        shop.close_beat()
    if not all([has_begun_all(machine) for machine in shop.machines]):
        return None
    # Behind its end, a machine did none since the beat at which its last step was over.
    ended = [machine.over if machine.is_busy() else machine.since for machine in shop.machines]
    return max(ended, default=0)


def can_begin(shop, row):
    """Tell whether the row's machines may begin together at the beat that is open."""
    if not all([low < high for low, high in zip(row, row[1:])]):
        return False
    if not all([0 <= number < len(shop.machines) for number in row]):
        return False
    machines = [shop.machines[number] for number in row]
    if not all([machine.is_waiting() for machine in machines]):
        return False
    return sum([machine.need() for machine in machines]) <= shop.have


def has_begun_all(machine):
    """Tell whether the machine does its last step, or is at its end."""
    return machine.is_done() or (machine.is_busy() and machine.at == len(machine.steps) - 1)


def fewest(world):
    """Return (beat, plan): the soonest that all steps can be over, and by what; None for never."""
    check_world(world)
    search = Search(world)
    while search.level:
        shops = [shop_at(world, search.beat, state) for state in search.level]
        for state, shop in zip(search.level, shops):
            if all([machine.is_done() for machine in shop.machines]):
                return search.beat, search.rows_to(state)
        search.go_on(shops)
    return None


class Search:
    """The states that come by, by whatever plan, beat by beat.

    A state is (have, doing) ahead of a beat; doing holds (step, left) of each machine. `level`
    has the states that come by for the first time ahead of `beat`; `came` tells of each state
    (the state one beat earlier, the row begun there).
    """

    def __init__(self, world):
        self.beat = 0
        self.level = [(world[0][1], tuple([(0, None) for _ in world[1]]))]
        # The state ahead of beat 0 isn't kept here: one that looks alike later is another, as
        # it is refilled.
        self.came = {}

    def go_on(self, shops):
        """Go on to the next beat; the shops are those of the states at hand."""
        found = []
        for state, shop in zip(self.level, shops):
            for row, have in rows_of(shop):
                later = state_behind(shop, row, have)
                if later not in self.came:
                    self.came[later] = (state, row)
                    found.append(later)
            self.check_many()
        self.level = found
        self.beat += 1

    def check_many(self):
        """Refuse more states than the document lets come by."""
        if 1 + len(self.came) > MOST_STATES:
            raise TooMany(f"more than {MOST_STATES} states come by")

    def rows_to(self, state):
        """Return the plan that leads to this state ahead of the beat at hand."""
        rows = []
        for _ in range(self.beat):
            state, row = self.came[state]
            rows.append(row)
        return rows[::-1]


def shop_at(world, beat, state):
    """Return the shop of this world in this state ahead of this beat, with the beat opened."""
    have, doing = state
    shop = Shop(world, False)
    shop.beat = beat
    shop.have = have
    for machine, (at, left) in zip(shop.machines, doing):
        machine.at = at
        if left is not None:
            machine.over = beat + left
    shop.open_beat()
    return shop


def rows_of(shop):
    """Return (row, have) for each row that can be at the open beat: have is what it leaves."""
    rows = [((), shop.have)]
    for machine in shop.waiting():
        need = machine.need()
        rows = rows + [(row + (machine.number,), have - need) for row, have in rows if need <= have]
    return rows


def state_behind(shop, row, have):
    """Return the state ahead of the next beat, if this row begins and leaves so much."""
    doing = [doing_behind(machine, machine.number in row, shop.beat) for machine in shop.machines]
    return have, tuple(doing)


def doing_behind(machine, begins, beat):
    """Return the machine's (step, left) ahead of the beat behind this one, if it begins or not."""
    if begins:
        return machine.at, machine.steps[machine.at][LONG] - 1
    return machine.at, machine.left(beat + 1)


def floors(world):
    """Return (longest, enough): beats ahead of which not all steps can be over, whatever is done."""
    check_world(world)
    store, machines = world
    longest = max([sum([step[LONG] for step in steps]) for steps in machines], default=0)
    lacks = sum([step[DRAW] - step[BACK] for steps in machines for step in steps]) - store[1]
    return longest, beats_to_refill(lacks, store[2])


def beats_to_refill(lacks, refill):
    """Return up to which beat refills bring what is lacking, None for never."""
    if lacks <= 0:
        return 0
    if refill == 0:
        return None
    # One refill at each beat from 1 on; the last may bring more than is lacking.
    return (lacks + refill - 1) // refill
