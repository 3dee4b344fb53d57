"""What the tests share: every way to ask about a world, and what a refusal holds."""

from onebreath.errors import BreathError
from onebreath.notes import written
from onebreath.orders import least_start, need_of, order
from onebreath.plans import fewest, floors, judged
from onebreath.rounds import after, period
from onebreath.running import beats, ends, waits

RIGHTS = ("rank", "turns", "wait", "least")
RULE = ("rank", True)
RULES = [(right, passing) for right in RIGHTS for passing in (True, False)]

ASKED = {
    "beats": lambda world, rule: beats(world, rule, 5),
    "ends": ends,
    "waits": waits,
    "after": lambda world, rule: after(world, rule, 5),
    "period": period,
}

WORLD_ASKED = {
    "judged": lambda world: judged(world, [[]]),
    "fewest": fewest,
    "floors": floors,
    "need_of": lambda world: need_of(world, 0),
    "order": order,
    "least_start": least_start,
    "written": written,
}


def refusal(call, *handed):
    """The refusal's class name and its values, or None where nothing is refused."""
    try:
        call(*handed)
    except BreathError as error:
        return (error.__class__.__name__, vars(error))
    return None


def kinds(told):
    """All that is told, with the kind of each thing: so a bool or another kind of list shows."""
    if isinstance(told, (list, tuple)):
        return (type(told).__name__, [kinds(one) for one in told])
    return (type(told).__name__, told)
