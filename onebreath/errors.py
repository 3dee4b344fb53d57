"""What the program refuses with: one class for each kind of refusal."""


class BreathError(ValueError):
    """Any refusal."""


class BadStore(BreathError):
    """A store that can't be."""


class BadStep(BreathError):
    """A step that can't be: the first one, by its machine and its place there."""

    def __init__(self, machine, step):
        BreathError.__init__(self, f"machine {machine} can't have such a step {step}")
        self.machine = machine
        self.step = step


class BadRule(BreathError):
    """A rule that can't be."""


class BadCount(BreathError):
    """A number beyond what the document lets it be."""


class BadPlan(BreathError):
    """A plan whose row at a beat can't be: the first such beat."""

    def __init__(self, beat):
        BreathError.__init__(self, f"the plan's row at beat {beat} can't be")
        self.beat = beat


class TooMany(BreathError):
    """An answer that lies further off than the document lets it be looked for."""


class NoMachine(BreathError):
    """A machine that there isn't, or that isn't as the call needs it."""

    def __init__(self, number):
        BreathError.__init__(self, f"there is no such machine {number}")
        self.number = number


class BadDeed(BreathError):
    """A deed that is none or is refused: the first one, by its place."""

    def __init__(self, number):
        BreathError.__init__(self, f"deed {number} can't be done")
        self.number = number


class BadText(BreathError):
    """A text whose row isn't so by its words: the first such row."""

    def __init__(self, row):
        BreathError.__init__(self, f"row {row} can't be read")
        self.row = row
