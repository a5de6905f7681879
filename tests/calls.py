"""Calls by their names, for the tests."""

from spawnbed.bed import answers

NAMES = (
    "begin", "block", "clear", "grain", "take", "back", "day", "full", "run", "last",
    "on_day", "way", "best", "fewest", "areas", "without", "if_block", "map", "grains", "state",
)
HIGHEST = 4294967295


def flat(calls):
    """The list that is handed in, of calls such as ("begin", 3, 3) or "full"."""
    numbers = []
    for call in calls:
        parts = (call,) if isinstance(call, str) else call
        numbers.append(NAMES.index(parts[0]))
        numbers.extend(parts[1:])
    return numbers


def split(told):
    """The answers, each a list of its own."""
    found = []
    place = 0
    while place < len(told):
        behind = place + 1 + told[place]
        if behind > len(told):
            raise AssertionError("the last answer is shorter than told")
        found.append(told[place + 1:behind])
        place = behind
    return found


def ask(*calls):
    numbers = flat(calls)
    if len(calls) > 100 or len(numbers) > 400:
        raise AssertionError("no such list is handed in")
    return split(answers(numbers))


def final(*calls):
    """The answer to the last call alone."""
    return ask(*calls)[-1]


def view(width, height):
    """Calls that change nothing and tell all that can be seen of a bed."""
    return ["map", "grains", "state", "full", "last", ("run", 0), ("run", HIGHEST)] + [
        ("day", cell) for cell in range(width * height)
    ]


def laid_out(width, height, boards, grains):
    """The calls that make a bed, with its boards and its grains."""
    return (
        [("begin", width, height)] + [("block", cell) for cell in boards] + [("grain", cell) for cell in grains]
    )
