"""What the tests share: every way to ask about a world, and what a refusal holds."""

from onebreath.errors import BreathError
from onebreath.rounds import after, period
from onebreath.running import beats, ends, waits

RIGHTS = ("rank", "turns", "wait", "least")
RULE = ("rank", True)

ASKED = {
    "beats": lambda world, rule: beats(world, rule, 5),
    "ends": ends,
    "waits": waits,
    "after": lambda world, rule: after(world, rule, 5),
    "period": period,
}


def refusal(call, *handed):
    """The refusal's class name and its values, or None where nothing is refused."""
    try:
        call(*handed)
    except BreathError as error:
        return (error.__class__.__name__, vars(error))
    return None
