"""Machines and their store, beat by beat."""

from onebreath.checks import check_rule, check_world
from onebreath.rights import in_turn

DRAW = 0
LONG = 1
BACK = 2


class Machine:
    """A machine: which of its steps it does, or waits for.

    `at` is that step's place, `over` the beat at which it is over (None if the machine does
    none), `since` the beat from which the machine last did none, or was let go on. One that is
    `paused` doesn't wait.
    """

    def __init__(self, number, steps, since):
        self.number = number
        self.steps = steps
        self.at = 0
        self.over = None
        self.since = since
        self.paused = False

    def is_done(self):
        """Tell whether its last step is over."""
        return self.at == len(self.steps)

    def is_busy(self):
        """Tell whether it does a step."""
        return self.over is not None

    def is_waiting(self):
        """Tell whether it waits for a step."""
        return not (self.is_busy() or self.is_done() or self.paused)

    def need(self):
        """Return how much the step that it waits for draws."""
        return self.steps[self.at][DRAW]

    def left(self, beat):
        """Return how many beats later than this one its step is over, None if it does none."""
        return self.over - beat if self.is_busy() else None

    def begin_step(self, beat):
        """Begin, at this beat, the step that it waits for."""
        self.over = beat + self.steps[self.at][LONG]

    def end_step(self, beat):
        """End its step at this beat, and return how much that gives back."""
        back = self.steps[self.at][BACK]
        self.at += 1
        self.over = None
        self.since = beat
        return back

    def begin_anew(self):
        """Go back to the first step."""
        self.at = 0


class Shop:
    """A store and its machines; with `anew`, a machine at its end begins anew.

    `beat` is the beat that is open or comes next, `have` how much is in the store. A beat is
    opened, those that are to begin in it begin, and it is closed.
    """

    def __init__(self, world, anew):
        store, machines = world
        self.cap, self.have, self.refill = store
        self.anew = anew
        self.beat = 0
        self.machines = []
        for steps in machines:
            self.enter(steps)

    def enter(self, steps):
        """Let a machine with these steps come in; it waits from the next beat on."""
        self.machines.append(Machine(len(self.machines), steps, self.beat))

    def open_beat(self):
        """Open the next beat: end steps and refill; return whose step is over, rising."""
        over = self.end_steps()
        if self.beat > 0:
            self.put_in(self.refill)
        return over

    def end_steps(self):
        """End the steps whose time is over, and return their machines' numbers."""
        over = []
        for machine in self.machines:
            if machine.over == self.beat:
                self.put_in(machine.end_step(self.beat))
                over.append(machine.number)
                if self.anew and machine.is_done():
                    machine.begin_anew()
        return over

    def put_in(self, many):
        """Put so much into the store; what it doesn't hold is lost."""
        self.have = min(self.cap, self.have + many)

    def begin(self, machine):
        """Let this machine, that waits, draw and begin; enough is there."""
        self.have -= machine.need()
        machine.begin_step(self.beat)

    def close_beat(self):
        """Close the beat that is open."""
        self.beat += 1

    def waiting(self):
        """Return the machines that wait, as they're numbered."""
        return [machine for machine in self.machines if machine.is_waiting()]


class Run(Shop):
    """A shop that goes on by a rule; `last` is the machine that drew last, None before any did."""

    def __init__(self, world, rule, anew):
        Shop.__init__(self, world, anew)
        self.right, self.passing = rule
        self.last = None

    def do_beat(self):
        """Do the next beat: return whose step is over, rising, and who begins, in turn."""
        over = self.open_beat()
        begun = self.begin_steps()
        self.close_beat()
        return over, begun

    def begin_steps(self):
        """Let those that wait draw by the rule, and return their numbers in turn."""
        begun = []
        for number in in_turn(self.right, self.last, self.waiting()):
            machine = self.machines[number]
            if machine.need() <= self.have:
                self.begin(machine)
                begun.append(number)
            elif not self.passing:
                break
        if begun:
            self.last = begun[-1]
        return begun

    def is_still(self):
        """Tell, behind a beat, whether all beats from here on do nothing."""
        # Who could not draw now can't later either: no step gives back, no refill brings more,
        # and the turn stays as it is while none draws.
        fed = self.refill > 0 and self.have < self.cap
        return not fed and not any([machine.is_busy() for machine in self.machines])


def checked_run(world, rule, anew):
    """Return a run of a world by a rule; refuse either, if it can't be."""
    check_world(world)
    check_rule(rule)
    return Run(world, rule, anew)
