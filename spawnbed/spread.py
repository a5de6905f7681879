"""How threads run from cell to cell, day by day."""

# The number that the calls answer for it, so that a day can be answered as it stands.
NEVER = -33


def beside(width, height, cell):
    """The cells above, at the left, at the right and below, in this order, those that there are."""
    column = cell % width
    cells = []
    if cell >= width:
        cells.append(cell - width)
    if column > 0:
        cells.append(cell - 1)
    if column < width - 1:
        cells.append(cell + 1)
    if cell + width < width * height:
        cells.append(cell + width)
    return cells


def reached_from(width, height, blocked, days, front):
    """The free cells beside the front that have no day yet, each once."""
    reached = []
    for cell in front:
        for other in beside(width, height, cell):
            if days[other] == NEVER and other not in blocked and other not in reached:
                reached.append(other)
    return reached


def spread_days(width, height, blocked, grains):
    """Of each cell the day on which it is run through, or NEVER; blocked cells have NEVER too."""
    days = [NEVER] * (width * height)
    front = list(grains)
    today = 0
    while len(front) > 0:
        for cell in front:
            days[cell] = today
        front = reached_from(width, height, blocked, days, front)
        today = today + 1
    return days


def day_of_all(days, blocked):
    """The day on which all free cells are run through, or NEVER."""
    free_days = [days[cell] for cell in range(len(days)) if cell not in blocked]
    if NEVER in free_days:
        return NEVER
    # A bed without free cells is run through on day 0.
    return max(free_days, default=0)
