"""How dark each pixel is: the exact share of it that an outline covers.

A way counts for all that lies to the right of it, up if it leads down and down if it leads up. Over a closed ring
these add up to how often the ring goes round each place.
"""

from letterfall.outlines import STEPS, fineness, placed_rings

DARKEST = 255


class Sheet:
    """Pixels, row by row, and twice the area that's counted so far of each."""

    def __init__(self, left, top, wide, high, pixel):
        self.left = left * pixel
        self.top = top * pixel
        self.wide = wide
        self.high = high
        self.pixel = pixel
        # Counted from this pixel to its row's end, in each of them.
        self.onwards = [0] * (wide * high)
        self.counted = [0] * (wide * high)
        # What's beyond whole numbers: by the divisor, its dividend.
        self.rests = [{} for cell in range(wide * high)]

    def count_area(self, cell, dividend, divisor):
        self.counted[cell] += dividend // divisor
        rest = dividend % divisor
        if rest != 0:
            rests = self.rests[cell]
            rests[divisor] = rests.get(divisor, 0) + rest


class Way:
    """A straight way from its upper end; across and down are whole and have no common divisor."""

    def __init__(self, upper, lower, sign):
        across = lower[0] - upper[0]
        down = lower[1] - upper[1]
        common = common_divisor(abs(across), down)
        self.x = upper[0]
        self.y = upper[1]
        self.end = lower[1]
        self.across = across // common
        self.down = down // common
        self.sign = sign


def common_divisor(one, two):
    """The greatest one; two isn't 0."""
    while one != 0:
        rest = two % one
        two = one
        one = rest
    return two


def area_up_to(border, near, far, height):
    """Twice the area between a way and a border to the right of it, as a dividend.

    All but height is in parts that depend on the way; near and far are its ends.
    """
    if near == far:
        return 2 * height * max(0, border - near)
    return max(0, border - near) ** 2 - max(0, border - far) ** 2


def count_row(sheet, way, row):
    """Counts, in one row of pixels, what lies to the right of a way."""
    upper = max(way.y, sheet.top + row * sheet.pixel)
    lower = min(way.end, sheet.top + (row + 1) * sheet.pixel)
    # From here on, x is from the sheet's left and times way.down, so that it's whole.
    begin = (way.x - sheet.left) * way.down + (upper - way.y) * way.across
    end = begin + (lower - upper) * way.across
    near = min(begin, end)
    far = max(begin, end)
    step = sheet.pixel * way.down
    first = max(near // step, 0)
    behind = max(far // step + 1, 0)
    divisor = max(abs(way.across) * way.down, 1)
    before = area_up_to(first * step, near, far, lower - upper)
    for column in range(first, min(behind, sheet.wide)):
        area = area_up_to((column + 1) * step, near, far, lower - upper)
        sheet.count_area(row * sheet.wide + column, way.sign * (area - before), divisor)
        before = area
    if behind < sheet.wide:
        sheet.onwards[row * sheet.wide + behind] += way.sign * 2 * (lower - upper) * sheet.pixel


def count_way(sheet, begin, end):
    first = max((min(begin[1], end[1]) - sheet.top) // sheet.pixel, 0)
    last = min((max(begin[1], end[1]) - 1 - sheet.top) // sheet.pixel, sheet.high - 1)
    # A level way, or one above or below the sheet or to the right of it, counts for nothing.
    beyond = min(begin[0], end[0]) >= sheet.left + sheet.wide * sheet.pixel
    if begin[1] == end[1] or first > last or beyond:
        return
    way = Way(begin, end, 1) if begin[1] < end[1] else Way(end, begin, -1)
    for row in range(first, last + 1):
        count_row(sheet, way, row)


def count_ring(sheet, ring):
    before = ring[-1]
    for point in ring:
        count_way(sheet, before, point)
        before = point


def added(fractions):
    """The sum of some (dividend, divisor): two by two, so that most additions are of short numbers."""
    left = fractions
    while len(left) > 1:
        sums = []
        for one, two in zip(left[0::2], left[1::2]):
            sums.append((one[0] * two[1] + two[0] * one[1], one[1] * two[1]))
        if len(left) % 2 == 1:
            sums.append(left[-1])
        left = sums
    return left[0]


def darkness(area, rests, pixel):
    """A pixel's number, by twice the area that's counted: area and all of the rests."""
    total = added([(area, 1)] + [(rest, divisor) for divisor, rest in rests.items()])
    full = 2 * pixel * pixel * total[1]
    return (2 * DARKEST * min(abs(total[0]), full) + full) // (2 * full)


def sheet_darkness(sheet):
    found = []
    for row in range(sheet.high):
        onwards = 0
        for cell in range(row * sheet.wide, (row + 1) * sheet.wide):
            onwards += sheet.onwards[cell]
            found.append(darkness(onwards + sheet.counted[cell], sheet.rests[cell], sheet.pixel))
    return found


def outline_darkness(outline, units, size, x, y, k, left, top, wide, high):
    """A number from 0 to 255 for each pixel, row by row."""
    fine = fineness(units, k)
    sheet = Sheet(left, top, wide, high, STEPS * fine)
    for ring in placed_rings(outline, k, size, fine, x, y):
        count_ring(sheet, ring)
    return sheet_darkness(sheet)
