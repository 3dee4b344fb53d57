"""A store that goes on, deed by deed."""

from onebreath.checks import MOST_CAP, MOST_MACHINES, MOST_REFILL, check_count, check_rule, check_steps, check_store
from onebreath.engine import Run
from onebreath.errors import BadDeed, BreathError, NoMachine


class Breath:
    """A store and its machines that go on by a rule; all that is done is kept in `done`.

    `run` is the store with its machines, `lent` how much is lent out.
    """

    def __init__(self, store, rule):
        check_store(store)
        check_rule(rule)
        self.run = Run((store, ()), rule, False)
        self.lent = 0
        self.done = []

    def enter(self, steps):
        """Let a machine with these steps come in, and return its number."""
        number = len(self.run.machines)
        check_steps(number, steps, self.run.cap)
        check_count(number + 1, 1, MOST_MACHINES)
        kept = tuple([tuple(step) for step in steps])
        self.run.enter(kept)
        self.done.append(("enter", kept))
        return number

    def tick(self):
        """Do the next beat: return (whose step is over, who begins, how much is there)."""
        over, begun = self.run.do_beat()
        self.done.append(("tick",))
        return over, begun, self.run.have

    def pause(self, number):
        """Pause a machine: it doesn't wait; a step that it does goes on."""
        machine = self.machine_that(number, False)
        machine.paused = True
        self.done.append(("pause", number))

    def go(self, number):
        """Let a paused machine go on: it waits from the next beat on."""
        machine = self.machine_that(number, True)
        machine.paused = False
        machine.since = self.run.beat
        self.done.append(("go", number))

    def machine_that(self, number, paused):
        """Return the machine of this number; refuse one that isn't there, or isn't so."""
        machines = self.run.machines
        if not 0 <= number < len(machines) or machines[number].paused != paused:
            raise NoMachine(number=number)
        return machines[number]

    def lend(self, many):
        """Take so much out of the store."""
        check_count(many, 1, self.run.have)
        self.run.have -= many
        self.lent += many
        self.done.append(("lend", many))

    def back(self, many):
        """Put so much of what is lent back; what the store doesn't hold is lost."""
        check_count(many, 1, self.lent)
        self.run.put_in(many)
        self.lent -= many
        self.done.append(("back", many))

    def merge(self, store):
        """Join another store to this one."""
        check_store(store)
        cap, start, refill = store
        check_count(self.run.cap + cap, 1, MOST_CAP)
        check_count(self.run.refill + refill, 0, MOST_REFILL)
        self.run.cap += cap
        self.run.have += start
        self.run.refill += refill
        self.done.append(("merge", (cap, start, refill)))

    def standing(self):
        """Return (step, left, paused) of each machine."""
        beat = self.run.beat
        return [(machine.at, machine.left(beat), machine.paused) for machine in self.run.machines]

    def stock(self):
        """Return (cap, how much is there, refill, how much is lent)."""
        return self.run.cap, self.run.have, self.run.refill, self.lent

    def deeds(self):
        """Return all that was done, in turn, each (word, what was handed in ..)."""
        return list(self.done)


def again(store, rule, deeds):
    """Return a Breath of this store and rule that did these deeds."""
    breath = Breath(store, rule)
    for place, deed in enumerate(deeds):
        try:
            do_deed(breath, place, deed)
        except BreathError:
            raise BadDeed(number=place) from None
    return breath


def do_deed(breath, place, deed):
    """Let the Breath do the deed at this place; refuse what is none by its word and its things."""
    match deed:
        case ["enter", steps]:
            breath.enter(steps)
        case ["tick"]:
            breath.tick()
        case ["pause", number]:
            breath.pause(number)
        case ["go", number]:
            breath.go(number)
        case ["lend", many]:
            breath.lend(many)
        case ["back", many]:
            breath.back(many)
        case ["merge", store]:
            breath.merge(store)
        case _:
            raise BadDeed(number=place)
