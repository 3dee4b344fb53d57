"""Worlds as texts."""

from onebreath.checks import check_world
from onebreath.errors import BadText

FIGURES = "0123456789"


def written(world):
    """Return the world as a text: a row for the store, then one for each machine."""
    check_world(world)
    store, machines = world
    cap, start, refill = store
    rows = [f"store {cap} {start} {refill}"]
    for steps in machines:
        rows.append(" ".join(["machine"] + [f"{draw},{long},{back}" for draw, long, back in steps]))
    return "\n".join(rows)


def read(text):
    """Return the world that is written so; refuse a row that can't be read, and what is no world."""
    rows = text.split("\n")
    store = read_store(rows[0])
    machines = tuple([read_machine(number, row) for number, row in enumerate(rows) if number > 0])
    world = (store, machines)
    check_world(world)
    return world


def read_store(row):
    """Return the store of row 0."""
    words = row.split(" ")
    if words[0] != "store" or not are_three(words[1:]):
        raise BadText(row=0)
    return read_three(words[1:])


def read_machine(number, row):
    """Return the steps of the machine in the row of this number."""
    words = row.split(" ")
    steps = [word.split(",") for word in words[1:]]
    if words[0] != "machine" or not all([are_three(step) for step in steps]):
        raise BadText(row=number)
    return tuple([read_three(step) for step in steps])


def are_three(words):
    """Tell whether these are the words of three numbers."""
    return len(words) == 3 and all([is_number(word) for word in words])


def is_number(word):
    """Tell whether the word is a number of one or two plain figures, none needless."""
    # Other letters than these ten are figures, too, for Python's own test.
    if not all([letter in FIGURES for letter in word]):
        return False
    return len(word) == 1 or (len(word) == 2 and word[0] != "0")


def read_three(words):
    """Return the three numbers that these words are."""
    return tuple([int(word) for word in words])
