"""A second model of the beats and rounds, from the document's words, for the tests to compare.

It shares no code with the package, keeps all that ever happened, and looks back at it.
"""


class Model:
    def __init__(self, world, rule, anew):
        (self.cap, self.here, self.refill), self.machines = world
        self.right, self.passing = rule
        self.anew = anew
        # One list of (step, begun at, over at) for each machine: all that it ever began.
        self.done = [[] for _ in self.machines]
        self.rows = []
        self.drawn = []

    def does(self, who, beat):
        """The step that `who` does at this beat, as (step, begun, over), or None."""
        for row in self.done[who]:
            if row[1] < beat < row[2]:
                return row
        return None

    def waits_for(self, who, beat):
        """The step that `who` waits for once the steps over at this beat are over, or None."""
        steps = self.machines[who]
        if not steps or self.does(who, beat):
            return None
        many = len(self.done[who])
        if many >= len(steps) and not self.anew:
            return None
        return many % len(steps)

    def since(self, who):
        return self.done[who][-1][2] if self.done[who] else 0

    def turn(self, beat):
        waiting = [who for who in range(len(self.machines)) if self.waits_for(who, beat) is not None]
        if self.right == "wait":
            waiting.sort(key=lambda who: (-(beat - self.since(who)), who))
        elif self.right == "least":
            waiting.sort(key=lambda who: (self.machines[who][self.waits_for(who, beat)][0], who))
        elif self.right == "turns" and self.drawn:
            last = self.drawn[-1]
            waiting.sort(key=lambda who: (0 if who > last else 1, who))
        return waiting

    def step_beat(self):
        beat = len(self.rows)
        ahead = self.look(beat)
        over = []
        for who in range(len(self.machines)):
            for step, _, end in self.done[who]:
                if end == beat:
                    over.append(who)
                    self.here = min(self.cap, self.here + self.machines[who][step][2])
        if beat:
            self.here = min(self.cap, self.here + self.refill)
        began = []
        barred = False
        turn = self.turn(beat)
        for who in turn:
            step = self.waits_for(who, beat)
            draw, long, _ = self.machines[who][step]
            if draw > self.here:
                barred = barred or not self.passing
            elif not barred:
                self.here -= draw
                self.done[who].append((step, beat, beat + long))
                began.append(who)
        self.drawn.extend(began)
        wanting = [who for who in turn if who not in began]
        self.rows.append((ahead, over, self.here, began, wanting))

    def look(self, beat):
        """All that is to be alike ahead of a beat, by the document's words."""
        doing = []
        waiting = []
        for who, steps in enumerate(self.machines):
            now = [row for row in self.done[who] if row[2] >= beat]
            if now:
                doing.append(("does", now[0][0], now[0][2] - beat))
            elif self.waits_for(who, beat) is not None:
                doing.append(("waits", self.waits_for(who, beat)))
                waiting.append(who)
            else:
                doing.append(("is at its end",))
        picture = [self.here, doing]
        if self.right == "turns":
            picture.append(self.drawn[-1:])
        if self.right == "wait":
            for one in waiting:
                for other in waiting:
                    mine, theirs = self.since(one), self.since(other)
                    picture.append((one, other, (mine < theirs) - (mine > theirs)))
        return picture


def run(world, rule, many, anew):
    model = Model(world, rule, anew)
    for _ in range(many):
        model.step_beat()
    return model


def slow_beats(world, rule, many):
    return [(row[2], row[3]) for row in run(world, rule, many, False).rows]


def slow_ends(world, rule, many):
    """As `ends`, of a world in which nothing more is done from beat `many` on."""
    model = run(world, rule, many, False)
    told = []
    for who, steps in enumerate(world[1]):
        if len(model.done[who]) < len(steps):
            told.append(None)
        else:
            told.append(max([0] + [row[2] for row in model.done[who]]))
    return told


def slow_waits(world, rule, many):
    """As `waits`, likewise."""
    model = run(world, rule, many, False)
    told = []
    for who, steps in enumerate(world[1]):
        wanted = len([row for row in model.rows if who in row[4]])
        told.append(wanted if len(model.done[who]) == len(steps) else None)
    return told


def slow_after(world, rule, many):
    rows = run(world, rule, many, True).rows
    return [len([row for row in rows if who in row[1]]) for who in range(len(world[1]))]


def slow_period(world, rule, many):
    """As `period`, of a world that has come round twice within `many` beats; else None."""
    rows = run(world, rule, many, True).rows
    looks = [row[0] for row in rows]
    for first in range(1, many):
        for long in range(1, (many - first) // 2):
            if looks[first] == looks[first + long] and looks[first:-long] == looks[first + long:]:
                over = [row[1] for row in rows[first:first + long]]
                counts = [len([here for here in over if who in here]) for who in range(len(world[1]))]
                return first, long, tuple(counts)
    return None
