"""The points of an outline, exactly: a curve becomes straight ways."""

# A pixel is so many steps wide and high.
STEPS = 64
# How many straight ways a curve is, by how often it is halved.
WAYS = (1, 2, 4, 8, 16)


def fineness(units, k):
    """How many parts a step has, so that all points of all outlines of a font lie on whole parts."""
    return units * WAYS[k] * WAYS[k]


def along_curve(begin, bend, end, ways):
    """One coordinate of the points behind a curve's begin, times ways twice.

    Halving again and again meets the curve's points at equal parts of its parameter.
    """
    found = []
    for way in range(1, ways + 1):
        rest = ways - way
        found.append(rest * rest * begin + 2 * rest * way * bend + way * way * end)
    return found


def rings_of(outline, k):
    """Each ring's points (x, y), y up, in units times WAYS[k] twice."""
    ways = WAYS[k]
    rings = []
    last = (0, 0)
    for word, numbers in outline:
        if word == "move":
            rings.append([])
        if word == "curve":
            across = along_curve(last[0], numbers[0], numbers[2], ways)
            up = along_curve(last[1], numbers[1], numbers[3], ways)
            rings[-1].extend(list(zip(across, up)))
        else:
            rings[-1].append((numbers[0] * ways * ways, numbers[1] * ways * ways))
        last = (numbers[-2], numbers[-1])
    return rings


def placed_rings(outline, k, size, fine, x, y):
    """Each ring's points (x, y), y down, in the parts that a step has."""
    rings = []
    for ring in rings_of(outline, k):
        rings.append([(x * fine + across * size, y * fine - up * size) for across, up in ring])
    return rings


def outline_box(outline, units, size, k):
    """Left, top, right and bottom of the pixels in which its points at 0, 0 lie; right and bottom are behind them."""
    fine = fineness(units, k)
    columns = []
    rows = []
    for ring in placed_rings(outline, k, size, fine, 0, 0):
        columns.extend([point[0] // (STEPS * fine) for point in ring])
        rows.extend([point[1] // (STEPS * fine) for point in ring])
    if not columns:
        return [0, 0, 0, 0]
    return [min(columns), min(rows), max(columns) + 1, max(rows) + 1]
