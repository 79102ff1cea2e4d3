"""Cover and box once more, slowly: fractions, curves halved one by one, rings cut at each pixel's sides."""

from fractions import Fraction
from math import floor


def middle(one, two):
    return ((one[0] + two[0]) / 2, (one[1] + two[1]) / 2)


def halved(begin, bend, end, k):
    """The points behind begin."""
    if k == 0:
        return [end]
    first, second = middle(begin, bend), middle(bend, end)
    half = middle(first, second)
    return halved(begin, first, half, k - 1) + halved(half, second, end, k - 1)


def slow_rings(face, number, size, x, y, k):
    rings, letter, units = [], -1, None
    for words in [line.split() for line in face.splitlines()]:
        if words[0] == "font":
            units = int(words[1])
        if words[0] == "letter":
            letter += 1
        if words[0] not in ("move", "line", "curve") or letter != number:
            continue
        numbers = [int(word) for word in words[1:]]
        points = [(x + Fraction(across * size, units), y - Fraction(up * size, units))
                  for across, up in zip(numbers[0::2], numbers[1::2])]
        if words[0] == "move":
            rings.append([])
        rings[-1].extend(halved(rings[-1][-1], points[0], points[1], k) if words[0] == "curve" else points)
    return rings


def cut(ring, axis, border, side):
    """What of a ring lies where side times what's beyond the border is 0 or more."""
    found = []
    for before, point in zip(ring[-1:] + ring[:-1], ring):
        far, near = side * (before[axis] - border), side * (point[axis] - border)
        if (far < 0) != (near < 0):
            share = far / (far - near)
            found.append(tuple(a + (b - a) * share for a, b in zip(before, point)))
        if near >= 0:
            found.append(point)
    return found


def area(ring):
    return sum(a[0] * b[1] - a[1] * b[0] for a, b in zip(ring[-1:] + ring[:-1], ring)) / 2 if ring else Fraction(0)


def slow_pixel(rings, column, row):
    total = Fraction(0)
    for ring in rings:
        for axis, border, side in ((0, column, 1), (0, column + 1, -1), (1, row, 1), (1, row + 1, -1)):
            ring = cut(ring, axis, border * 64, side)
        total += area(ring)
    share = min(abs(total) / 4096, 1)
    return floor((2 * 255 * share + 1) / 2)


def slow_cover(size, number, x, y, k, left, top, wide, high, face):
    rings = slow_rings(face, number, size, x, y, k)
    return [0] + [slow_pixel(rings, column, row) for row in range(top, top + high)
                  for column in range(left, left + wide)]


def slow_box(size, number, k, face):
    points = [point for ring in slow_rings(face, number, size, 0, 0, k) for point in ring]
    if not points:
        return [0, 0, 0, 0, 0]
    columns = [floor(point[0] / 64) for point in points]
    rows = [floor(point[1] / 64) for point in points]
    return [0, min(columns), min(rows), max(columns) + 1, max(rows) + 1]
