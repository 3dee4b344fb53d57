"""A second model of a store that goes on, from the document's words, for the tests to compare.

It shares no code with the package. It keeps a diary of all that was done, and reads it anew from
its first line for each question.
"""


class Diary:
    def __init__(self, store, rule):
        self.store, self.rule = store, rule
        self.lines = []

    def do(self, deed):
        """(What is told, None), or (None, (refusal, values)): then nothing is written down."""
        wrong = self.wrong_with(deed)
        if wrong is not None:
            return None, wrong
        self.lines.append(deed)
        here = self.read()
        return {"enter": len(here["machines"]) - 1, "tick": here["told"]}.get(deed[0]), None

    def wrong_with(self, deed):
        here = self.read()
        word, handed = deed[0], deed[1:]
        if word == "enter":
            for at, (draw, long, back) in enumerate(handed[0][:6]):
                if draw not in range(here["cap"] + 1) or long not in range(1, 10) or back not in range(draw + 1):
                    return ("BadStep", {"machine": len(here["machines"]), "step": at})
            if len(handed[0]) > 6:
                return ("BadStep", {"machine": len(here["machines"]), "step": 6})
            return ("BadCount", {}) if len(here["machines"]) == 5 else None
        if word in ("pause", "go"):
            there = dict(enumerate(here["machines"]))
            if handed[0] not in there or there[handed[0]]["paused"] == (word == "pause"):
                return ("NoMachine", {"number": handed[0]})
        if word == "lend" and handed[0] not in range(1, here["here"] + 1):
            return ("BadCount", {})
        if word == "back" and handed[0] not in range(1, here["lent"] + 1):
            return ("BadCount", {})
        if word == "merge":
            cap, start, refill = handed[0]
            if cap not in range(1, 100) or start not in range(cap + 1) or refill not in range(10):
                return ("BadStore", {})
            if cap + here["cap"] > 99 or refill + here["refill"] > 9:
                return ("BadCount", {})
        return None

    def read(self):
        cap, start, refill = self.store
        here = {"cap": cap, "here": start, "refill": refill, "lent": 0, "beat": 0, "last": None, "told": None}
        here["machines"] = []
        for word, *handed in self.lines:
            if word == "enter":
                here["machines"].append({"steps": handed[0], "begun": [], "from": here["beat"], "paused": False})
            elif word == "pause":
                here["machines"][handed[0]]["paused"] = True
            elif word == "go":
                here["machines"][handed[0]].update({"paused": False, "from": here["beat"]})
            elif word == "lend":
                here["here"] -= handed[0]
                here["lent"] += handed[0]
            elif word == "back":
                here["here"] = min(here["cap"], here["here"] + handed[0])
                here["lent"] -= handed[0]
            elif word == "merge":
                for name, more in zip(("cap", "here", "refill"), handed[0]):
                    here[name] += more
            else:
                self.tick(here)
        return here

    def over_at(self, machine, place):
        return machine["begun"][place] + machine["steps"][place][1]

    def works(self, machine, beat):
        """Whether it does a step at this beat, of which the end is not at it or ahead of it."""
        return bool(machine["begun"]) and self.over_at(machine, -1 + len(machine["begun"])) > beat

    def tick(self, here):
        beat = here["beat"]
        over = []
        for number, machine in enumerate(here["machines"]):
            for place in range(len(machine["begun"])):
                if self.over_at(machine, place) == beat:
                    here["here"] = min(here["cap"], here["here"] + machine["steps"][place][2])
                    over.append(number)
        if beat:
            here["here"] = min(here["cap"], here["here"] + here["refill"])
        begun = []
        for number in self.turn(here):
            machine = here["machines"][number]
            draw = machine["steps"][len(machine["begun"])][0]
            if draw <= here["here"]:
                here["here"] -= draw
                machine["begun"].append(beat)
                begun.append(number)
            elif not self.rule[1]:
                break
        here["last"] = begun[-1] if begun else here["last"]
        here["beat"] = beat + 1
        here["told"] = (over, begun, here["here"])

    def turn(self, here):
        waiting = {}
        for number, machine in enumerate(here["machines"]):
            many = len(machine["begun"])
            if many < len(machine["steps"]) and not machine["paused"] and not self.works(machine, here["beat"]):
                begins = [machine["from"]] + [self.over_at(machine, place) for place in range(many)]
                waiting[number] = (max(begins), machine["steps"][many][0])
        if self.rule[0] == "wait":
            return sorted(waiting, key=lambda number: (waiting[number][0], number))
        if self.rule[0] == "least":
            return sorted(waiting, key=lambda number: (waiting[number][1], number))
        if self.rule[0] == "turns" and here["last"] is not None:
            return sorted(waiting, key=lambda number: (number <= here["last"], number))
        return sorted(waiting)

    def standing(self):
        here = self.read()
        told = []
        for machine in here["machines"]:
            many = len(machine["begun"])
            # At the next beat itself, a step that is over then is still the one it does.
            if self.works(machine, here["beat"] - 1):
                told.append((many - 1, self.over_at(machine, many - 1) - here["beat"], machine["paused"]))
            else:
                told.append((many, None, machine["paused"]))
        return told

    def stock(self):
        here = self.read()
        return here["cap"], here["here"], here["refill"], here["lent"]
