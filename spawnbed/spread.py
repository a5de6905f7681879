"""How threads run from cell to cell, day by day: the ways, the areas, and how few grains are enough."""

# The number that the calls answer for it, so that a day can be answered as it stands.
NEVER = -33


def beside(width, height, cell):
    """The cells above, at the left, at the right and below, in this order, those that there are."""
    column = cell % width
    cells = []
    if cell >= width:
        cells.append(cell - width)
    if column > 0:
        cells.append(cell - 1)
    if column < width - 1:
        cells.append(cell + 1)
    if cell + width < width * height:
        cells.append(cell + width)
    return cells


def reached_from(width, height, blocked, days, front):
    """The free cells beside the front that have no day yet, each once."""
    reached = []
    for cell in front:
        for other in beside(width, height, cell):
            if days[other] == NEVER and other not in blocked and other not in reached:
                reached.append(other)
    return reached


def spread_days(width, height, blocked, grains):
    """Of each cell the day on which it is run through, or NEVER; blocked cells have NEVER too."""
    days = [NEVER] * (width * height)
    front = list(grains)
    today = 0
    while len(front) > 0:
        for cell in front:
            days[cell] = today
        front = reached_from(width, height, blocked, days, front)
        today = today + 1
    return days


def day_of_all(days, blocked):
    """The day on which all free cells are run through, or NEVER."""
    free_days = [days[cell] for cell in range(len(days)) if cell not in blocked]
    if NEVER in free_days:
        return NEVER
    # A bed without free cells is run through on day 0.
    return max(free_days, default=0)


def free_cells(width, height, blocked):
    return [cell for cell in range(width * height) if cell not in blocked]


def cell_before(width, height, days, cell):
    """The first cell beside that is run through the day before; the cell's own day is above 0."""
    earlier = [other for other in beside(width, height, cell) if days[other] == days[cell] - 1]
    return earlier[0]


def way_to(width, height, days, cell):
    """The way from a grain to a cell that is run through."""
    way = [cell]
    while days[way[0]] > 0:
        way = [cell_before(width, height, days, way[0])] + way
    return way


def reached_by(days, day):
    """The cells that are run through by the day, rising."""
    return [cell for cell in range(len(days)) if days[cell] != NEVER and days[cell] <= day]


def area_sizes(width, height, blocked):
    """How many cells each area has, the areas by their least cells."""
    sizes = []
    known = []
    for cell in free_cells(width, height, blocked):
        if cell not in known:
            # Threads from a cell run through its area and nothing else, and on a day below the count of cells.
            area = reached_by(spread_days(width, height, blocked, [cell]), width * height)
            known = known + area
            sizes.append(len(area))
    return sizes


def bits_of(cells):
    # As one whole number, so that thousands of sets of cells are put together and compared fast.
    return sum([1 << cell for cell in cells])


def with_one_more(choices, cells):
    """Each choice with each greater cell behind it; of rising choices in order these come in order, too."""
    wider = []
    for chosen in choices:
        for cell in cells:
            if len(chosen) == 0 or cell > chosen[-1]:
                wider.append(chosen + [cell])
    return wider


def first_that_covers(choices, reach, wanted):
    """The first choice whose cells reach all that is wanted, or None."""
    for chosen in choices:
        reached = 0
        for cell in chosen:
            reached = reached | reach[cell]
        if reached == wanted:
            return chosen
    return None


def fewest_cells(width, height, blocked, day, most):
    """The first of the smallest sets of grains, of at most so many, by which all is run through by the day, or None."""
    free = free_cells(width, height, blocked)
    reach = {}
    for cell in free:
        reach[cell] = bits_of(reached_by(spread_days(width, height, blocked, [cell]), day))
    choices = [[]]
    for count in range(most + 1):
        if count > 0:
            choices = with_one_more(choices, free)
        found = first_that_covers(choices, reach, bits_of(free))
        if found is not None:
            return found
    return None
