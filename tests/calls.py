"""Calls by their names, for the tests."""

from spawnbed.bed import answers

NAMES = (
    "begin", "block", "clear", "grain", "take", "back", "day", "full", "run", "last",
    "on_day", "way", "best", "fewest", "areas", "without", "if_block", "map", "grains", "state",
)
HIGHEST = 4294967295


def flat(calls):
    """The list that is handed in, of calls such as ("begin", 3, 3) or "full"."""
    numbers = []
    for call in calls:
        parts = (call,) if isinstance(call, str) else call
        numbers.append(NAMES.index(parts[0]))
        numbers.extend(parts[1:])
    return numbers


def split(told):
    """The answers, each a list of its own."""
    found = []
    place = 0
    while place < len(told):
        behind = place + 1 + told[place]
        if behind > len(told):
            raise AssertionError("the last answer is shorter than told")
        found.append(told[place + 1:behind])
        place = behind
    return found


def ask(*calls):
    return split(answers(flat(calls)))


def final(*calls):
    """The answer to the last call alone."""
    return ask(*calls)[-1]


def view(width, height):
    """Calls that change nothing and tell, of the ten calls, all that can be seen of a bed."""
    return ["full", "last", ("run", 0), ("run", HIGHEST)] + [("day", cell) for cell in range(width * height)]
