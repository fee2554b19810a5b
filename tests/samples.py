"""Rooms that several tests use, and what tests ask of every call."""

import itertools

from roomacoustics.rooms import judge

LOWEST = -2 ** 256
HIGHEST = 2 ** 256 - 1

TRIANGLE = [(0, 0), (4, 0), (0, 4)]
BOX = [(0, 0), (6, 0), (6, 4), (0, 4)]
DIAMOND = [(3, 0), (6, 3), (3, 6), (0, 3)]
OCTAGON = [(1, 0), (2, 0), (3, 1), (3, 2), (2, 3), (1, 3), (0, 2), (0, 1)]
# The two arms end on one straight line, with a gap between them.
CUP = [(0, 0), (9, 0), (9, 5), (6, 5), (6, 2), (3, 2), (3, 5), (0, 5)]
ARROW = [(0, 0), (4, 4), (8, 0), (8, 8), (0, 8)]
# Along its upper end it goes down and up: corners where both lines go up, and one where both go down.
CROWN = [(0, 0), (12, 0), (12, 6), (9, 3), (6, 6), (3, 3), (0, 6)]
SPIRAL = [(0, 0), (10, 0), (10, 10), (2, 10), (2, 4), (6, 4), (6, 6), (4, 6), (4, 8), (8, 8), (8, 2), (0, 2)]
LARGEST_BOX = [(0, 0), (4095, 0), (4095, 4095), (0, 4095)]
# Its corner at (2000, 2000) points into the room.
LARGE_ANGLE = [(0, 0), (4095, 0), (4095, 2000), (2000, 2000), (2000, 4095), (0, 4095)]


def room_of(corners, h=3, floor=0, ceiling=0, stuff=0):
    """The room's list; all its walls are of one stuff."""
    room = [h, floor, ceiling]
    for x, y in corners:
        room.extend([x, y, stuff])
    return room


def staircase(steps, unit=1):
    """A room of 2 * steps + 2 corners whose lines all run along x or y."""
    corners = [(0, 0), (steps, 0)]
    for step in range(1, steps + 1):
        corners.append((steps - step + 1, step))
        corners.append((steps - step, step))
    return scaled(corners, unit)


def comb(teeth, length):
    """A room of 4 * teeth corners: a strip of width 1, and on it teeth, 1 wide and 1 apart."""
    corners = [(0, 0), (2 * teeth - 1, 0)]
    for tooth in reversed(range(teeth)):
        corners.append((2 * tooth + 1, length))
        corners.append((2 * tooth, length))
        if tooth > 0:
            corners.append((2 * tooth, 1))
            corners.append((2 * tooth - 1, 1))
    return corners


def turned_by_an_eighth(corners, shift):
    """Turned to the left and made larger: straight lines are slanted then and go over as much x as they were long."""
    return [(x - y + shift, x + y) for x, y in corners]


def turned_by_a_quarter(corners, side):
    """Turned to the left, within 0 to side."""
    return [(side - y, x) for x, y in corners]


def flipped(corners, side):
    """Left and right changed about, within 0 to side; walked the other way round, so that the room is to the left."""
    return [(side - x, y) for x, y in reversed(corners)]


def all_ways_round(corners, side):
    """The eight rooms that it becomes by turning and flipping."""
    rooms = []
    for turn in range(4):
        rooms.extend([corners, flipped(corners, side)])
        corners = turned_by_a_quarter(corners, side)
    return rooms


def scaled(corners, unit):
    return [(x * unit, y * unit) for x, y in corners]


def small_rooms(side, n):
    """All rooms of n corners within 0 to side, each told once: from its least corner on."""
    grown = [[corner] for corner in itertools.product(range(side + 1), repeat=2)]
    for more in range(n - 1):
        grown = [corners + [ahead] for corners in grown for ahead in straight_ahead(corners[-1], side)
                 if ahead > corners[0] and ahead not in corners]
    return [corners for corners in grown if judge(room_of(corners)) == [0]]


def straight_ahead(corner, side):
    """All corners within 0 to side that lie in one of the eight directions."""
    x, y = corner
    return [(u, v) for u, v in itertools.product(range(side + 1), repeat=2)
            if (u, v) != corner and (u == x or v == y or abs(u - x) == abs(v - y))]


def started_at(corners, first):
    """The same corners in the same order, from another one on."""
    return corners[first:] + corners[:first]


WIDE_OCTAGON = scaled(OCTAGON, 3)
# Both have 64 corners, and whole points inside wherever one goes in them.
WIDE_COMB = scaled(comb(16, 10), 2)
WIDE_STAIRCASE = staircase(31, 2)

# One or more rooms of each rule, with the rule and the wall that are to be told.
FAULTS = [
    ([], 1, 0),
    ([3], 1, 0),
    ([3, 0], 1, 0),
    ([3, 0, 0], 1, 0),
    (room_of(BOX) + [0], 1, 0),
    (room_of(BOX) + [0, 0], 1, 0),
    (room_of(BOX)[:-1], 1, 0),
    (room_of([(0, 0), (4, 0)]), 1, 0),
    # Without the bound of 64 corners it would be a room: a staircase, its first corner cut off.
    (room_of([(0, 1), (1, 0)] + staircase(31, 2)[1:]), 1, 0),
    ([0] * 1000, 1, 0),
    ([0] * 999, 1, 0),
    (room_of(BOX, h=0), 2, 0),
    (room_of(BOX, h=4096), 2, 0),
    (room_of(BOX, h=-1), 2, 0),
    (room_of(BOX, floor=-1), 2, 0),
    (room_of(BOX, floor=8), 2, 0),
    (room_of(BOX, ceiling=-1), 2, 0),
    (room_of(BOX, ceiling=8), 2, 0),
    (room_of([(-1, 0), (6, 0), (6, 4), (0, 4)]), 3, 0),
    (room_of([(0, 0), (6, 0), (6, 4096), (0, 4)]), 3, 2),
    (room_of([(0, 0), (6, 0), (6, 4), (0, -1)]), 3, 3),
    (room_of(BOX, stuff=8), 3, 0),
    (room_of([(0, 0), (0, 0), (6, 4), (0, 4)]), 4, 0),
    (room_of([(0, 0), (6, 1), (6, 4), (0, 4)]), 4, 0),
    (room_of([(0, 0), (6, 0), (6, 4), (1, 4)]), 4, 3),
    (room_of([(0, 0), (3, 0), (6, 0), (6, 4), (0, 4)]), 5, 0),
    (room_of([(0, 0), (6, 0), (6, 4), (0, 4), (0, 2)]), 5, 3),
    (room_of([(3, 0), (6, 0), (6, 4), (0, 4), (0, 0)]), 5, 4),
    (room_of([(0, 0), (2, 2), (2, 0), (0, 2)]), 6, 0),
    (room_of([(0, 0), (6, 0), (3, 3), (6, 6), (6, 3), (0, 3)]), 6, 1),
    (room_of(BOX[::-1]), 7, 0),
    (room_of(TRIANGLE[::-1]), 7, 0),
]


class Unchangeable(list):
    """A list that no one can change, not for a while either."""

    def refuse(self, *args, **kwargs):
        raise AssertionError("what was handed in is being changed")

    append = extend = insert = remove = pop = clear = sort = reverse = refuse
    __setitem__ = __delitem__ = __iadd__ = __imul__ = refuse


def check_keeps_nothing(case, call, room):
    """The list stands as it was, and a second call, after others in between, answers as the first."""
    before = list(room)
    first = call(room)
    case.assertEqual(room, before)
    answer = list(first)
    # A caller may do with its answer what it likes.
    first.append(99)
    call(room_of(OCTAGON))
    call([])
    case.assertEqual(call(room), answer)
    case.assertEqual(call(Unchangeable(room)), answer)
    case.assertEqual(room, before)


def check_plain_answer(case, answer):
    """Whole numbers in a list, and nothing that only equals them."""
    case.assertIs(type(answer), list)
    for number in answer:
        case.assertIs(type(number), int)


# A second way of reckoning what's inside: water is let in from beyond the room and comes as far as no line holds it.

# So many times finer than whole numbers that water gets through wherever two lines leave a gap.
FINE = 4


def walked_points(corners):
    """All fine points on the lines, by walking round."""
    points = set()
    for (x, y), (u, v) in zip(corners, started_at(corners, 1)):
        across, up = (u > x) - (u < x), (v > y) - (v < y)
        for step in range(FINE * max(abs(u - x), abs(v - y))):
            points.add((FINE * x + step * across, FINE * y + step * up))
    return points


def points_kept_dry(corners, side):
    """All fine points strictly within the lines of a room that lies within 0 to side."""
    lowest, highest = -FINE, FINE * (side + 1)
    dry = set(itertools.product(range(lowest, highest + 1), repeat=2)) - walked_points(corners)
    dry.remove((lowest, lowest))
    fresh = [(lowest, lowest)]
    while fresh:
        x, y = fresh.pop()
        # A slanted line holds the water too, for it takes no slanted step.
        for point in ((x + 1, y), (x - 1, y), (x, y + 1), (x, y - 1)):
            if point in dry:
                dry.remove(point)
                fresh.append(point)
    return dry


# The straight lines through whole points along the eight directions cut the plan into triangles, their sides and their
# corners. Each of these pieces lies as a whole inside, on the lines or outside of a room, as one fine point in it does.


def piece_of(x, y):
    """The fine point that stands for the piece that the point (of fractions) lies in."""
    left, below = x // 1, y // 1
    across, up = x - left, y - below
    if up == 0:
        place = (0 if across == 0 else 2, 0)
    elif across == 0:
        place = (0, 2)
    elif up == across or up == 1 - across:
        place = tuple(2 if part * 2 == 1 else 1 if part * 2 < 1 else 3 for part in (across, up))
    elif up < across:
        place = (2, 1) if up < 1 - across else (3, 2)
    else:
        place = (1, 2) if up < 1 - across else (2, 3)
    return (FINE * left + place[0], FINE * below + place[1])
