import itertools
import unittest

from roomacoustics.rooms import judge, mirror
from samples import (
    ARROW, BOX, CROWN, CUP, DIAMOND, FAULTS, HIGHEST, LARGEST_BOX, LOWEST, OCTAGON, SPIRAL, TRIANGLE, WIDE_COMB,
    WIDE_STAIRCASE, all_ways_round, check_keeps_nothing, check_plain_answer, room_of, scaled, small_rooms, started_at,
    turned_by_a_quarter, turned_by_an_eighth,
)

WITH_64_CORNERS = [WIDE_COMB, WIDE_STAIRCASE, turned_by_an_eighth(WIDE_COMB, 62)]
KNOWN = [TRIANGLE, BOX, DIAMOND, OCTAGON, CUP, ARROW, CROWN, SPIRAL, LARGEST_BOX] + WITH_64_CORNERS

# Two of its lines, 2 and 6, lie on one straight line and are walked in opposite directions.
STEP = [(0, 0), (4, 0), (4, 2), (6, 2), (6, 4), (2, 4), (2, 2), (0, 2)]

# Of each room, 5 high, walls and points with what they become: inside, outside on either side, far away, on the plane
# (within the wall, at its corner, beyond it).
BY_HAND = [
    (BOX, [
        # Along x at y = 0, toward larger x.
        (0, (2, 3, 1), (2, -3, 1)), (0, (2, -3, 1), (2, 3, 1)), (0, (-7, 100, 9), (-7, -100, 9)),
        (0, (2, 0, 1), (2, 0, 1)), (0, (0, 0, 0), (0, 0, 0)), (0, (-9, 0, -4), (-9, 0, -4)),
        # Along y at x = 6, toward larger y.
        (1, (2, 3, 1), (10, 3, 1)), (1, (10, 3, 1), (2, 3, 1)), (1, (-100, -7, -2), (112, -7, -2)),
        (1, (6, 3, 1), (6, 3, 1)), (1, (6, 4, 5), (6, 4, 5)), (1, (6, 70, 2), (6, 70, 2)),
        # Along x at y = 4, toward smaller x.
        (2, (2, 3, 1), (2, 5, 1)), (2, (2, 5, 1), (2, 3, 1)), (2, (0, 1000, 3), (0, -992, 3)),
        (2, (2, 4, 1), (2, 4, 1)), (2, (6, 4, 0), (6, 4, 0)), (2, (50, 4, 7), (50, 4, 7)),
        # Along y at x = 0, toward smaller y; the last side wall.
        (3, (2, 3, 1), (-2, 3, 1)), (3, (-2, 3, 1), (2, 3, 1)), (3, (77, 1, 1), (-77, 1, 1)),
        (3, (0, 3, 1), (0, 3, 1)), (3, (0, 0, 5), (0, 0, 5)), (3, (0, -3, 1), (0, -3, 1)),
        # The floor, the ceiling.
        (4, (2, 3, 1), (2, 3, -1)), (4, (2, 3, -1), (2, 3, 1)), (4, (9, -9, 300), (9, -9, -300)),
        (4, (2, 3, 0), (2, 3, 0)), (4, (-8, 13, 0), (-8, 13, 0)),
        (5, (2, 3, 1), (2, 3, 9)), (5, (2, 3, 9), (2, 3, 1)), (5, (9, -9, 300), (9, -9, -290)),
        (5, (2, 3, 5), (2, 3, 5)), (5, (-8, 13, 5), (-8, 13, 5)), (5, (2, 3, 0), (2, 3, 10)),
    ]),
    (DIAMOND, [
        # y = x - 3, toward larger x and y.
        (0, (3, 3, 1), (6, 0, 1)), (0, (6, 0, 1), (3, 3, 1)), (0, (0, 0, 4), (3, -3, 4)), (0, (3, 1, 1), (4, 0, 1)),
        (0, (4, 1, 1), (4, 1, 1)), (0, (3, 0, 1), (3, 0, 1)), (0, (-5, -8, 1), (-5, -8, 1)),
        # y = 9 - x, toward smaller x, larger y.
        (1, (3, 3, 1), (6, 6, 1)), (1, (6, 6, 1), (3, 3, 1)), (1, (0, 0, 4), (9, 9, 4)), (1, (4, 3, 1), (6, 5, 1)),
        (1, (5, 4, 1), (5, 4, 1)), (1, (6, 3, 1), (6, 3, 1)), (1, (-10, 19, 1), (-10, 19, 1)),
        # y = x + 3, toward smaller x and y.
        (2, (3, 3, 1), (0, 6, 1)), (2, (0, 6, 1), (3, 3, 1)), (2, (0, 0, 4), (-3, 3, 4)), (2, (2, 4, 1), (1, 5, 1)),
        (2, (1, 4, 1), (1, 4, 1)), (2, (0, 3, 1), (0, 3, 1)), (2, (20, 23, 1), (20, 23, 1)),
        # y = 3 - x, toward larger x, smaller y; the last side wall.
        (3, (3, 3, 1), (0, 0, 1)), (3, (0, 0, 1), (3, 3, 1)), (3, (90, 50, 4), (-47, -87, 4)),
        (3, (2, 2, 1), (1, 1, 1)), (3, (1, 2, 1), (1, 2, 1)), (3, (3, 0, 1), (3, 0, 1)),
        (3, (13, -10, 1), (13, -10, 1)),
        (4, (3, 3, 2), (3, 3, -2)), (5, (3, 3, 2), (3, 3, 8)),
    ]),
    (TRIANGLE, [
        (0, (1, 1, 1), (1, -1, 1)), (1, (1, 1, 1), (3, 3, 1)), (1, (0, 0, 1), (4, 4, 1)), (2, (1, 1, 1), (-1, 1, 1)),
        (3, (1, 1, 1), (1, 1, -1)), (4, (1, 1, 1), (1, 1, 9)),
    ]),
    (ARROW, [
        (0, (1, 2, 1), (2, 1, 1)), (0, (7, 2, 1), (2, 7, 1)), (1, (7, 2, 1), (6, 1, 1)), (1, (1, 2, 1), (6, 7, 1)),
        (2, (1, 2, 1), (15, 2, 1)), (3, (1, 2, 1), (1, 14, 1)), (4, (1, 2, 1), (-1, 2, 1)),
        (5, (1, 2, 1), (1, 2, -1)), (6, (1, 2, 1), (1, 2, 9)),
    ]),
    # Wall 3 is at x = 6, its plane goes through the room's arms; wall 4 at y = 2; wall 7, the last one, at x = 0.
    (CUP, [
        (3, (8, 4, 1), (4, 4, 1)), (3, (1, 1, 2), (11, 1, 2)), (4, (1, 1, 1), (1, 3, 1)), (4, (1, 4, 1), (1, 0, 1)),
        (4, (1, 2, 1), (1, 2, 1)), (7, (8, 1, 3), (-8, 1, 3)), (8, (8, 1, 3), (8, 1, -3)), (9, (8, 1, 3), (8, 1, 7)),
    ]),
    (WIDE_COMB, [
        (0, (5, 5, 1), (5, -5, 1)), (1, (5, 5, 1), (119, 5, 1)), (2, (5, 5, 1), (5, 35, 1)),
        (62, (5, 5, 1), (5, 35, 1)), (63, (5, 5, 1), (-5, 5, 1)), (64, (5, 5, 1), (5, 5, -1)),
        (65, (5, 5, 1), (5, 5, 9)),
    ]),
    (LARGEST_BOX, [
        (1, (0, 7, 1), (8190, 7, 1)), (2, (7, 0, 1), (7, 8190, 1)), (1, (-1, 0, 0), (8191, 0, 0)),
    ]),
]


def planes(corners):
    """Of each side wall a place on its plane, and the direction along it."""
    return [((x, y), (u - x, v - y)) for (x, y), (u, v) in zip(corners, started_at(corners, 1))]


def expected(corners, h, wall, point):
    """By kinds of planes: what is taken off one number is put on again behind it, or x and y change places."""
    x, y, z = point
    if wall >= len(corners):
        return (x, y, -z) if wall == len(corners) else (x, y, h + h - z)
    (a, b), (along_x, along_y) = planes(corners)[wall]
    if along_y == 0:
        return (x, b - (y - b), z)
    if along_x == 0:
        return (a - (x - a), y, z)
    if (along_x > 0) == (along_y > 0):
        return (a + (y - b), b + (x - a), z)
    return (a - (y - b), b - (x - a), z)


def square_distance(one, other):
    return sum((number - another) ** 2 for number, another in zip(one, other))


def walls_of(corners):
    return range(len(corners) + 2)


class Case(unittest.TestCase):
    def mirrored(self, wall, point, room):
        answer = mirror(wall, *point, room)
        self.assertEqual((len(answer), answer[0]), (4, 0))
        return tuple(answer[1:])


class ByHand(Case):
    def check(self, corners, wall, point, mirrored, h=5):
        with self.subTest(corners=corners, wall=wall, point=point):
            room = room_of(corners, h=h)
            self.assertEqual(mirror(wall, *point, room), [0, *mirrored])
            self.assertEqual(mirror(wall, *mirrored, room), [0, *point])

    def test_points(self):
        for corners, entries in BY_HAND:
            for wall, point, mirrored in entries:
                self.check(corners, wall, point, mirrored)

    def test_whichever_corner_is_first(self):
        for corners, entries in BY_HAND:
            n = len(corners)
            for first in range(n):
                for wall, point, mirrored in entries:
                    moved = (wall - first) % n if wall < n else wall
                    self.check(started_at(corners, first), moved, point, mirrored)

    def test_all_eight_directions(self):
        # The octagon's walls at y = 0, y = x - 2, x = 3, y = 5 - x, y = 3, y = x + 2, x = 0, y = 1 - x.
        point = (7, 4, 1)
        mirrored = [(7, -4), (6, 5), (-1, 4), (1, -2), (7, 2), (2, 9), (-7, 4), (-3, -6)]
        for wall, (x, y) in enumerate(mirrored):
            self.check(OCTAGON, wall, point, (x, y, 1))

    def test_one_plane_walked_both_ways(self):
        turned = turned_by_a_quarter(STEP, 6)
        for corners in (STEP, turned, turned_by_an_eighth(STEP, 4), turned_by_an_eighth(turned, 6)):
            room = room_of(corners, h=5)
            self.assertEqual(judge(room), [0])
            one, other = planes(corners)[2][1], planes(corners)[6][1]
            self.assertEqual(one, tuple(-number for number in other))
            for point in itertools.product(range(-3, 12), range(-3, 12), (-1, 2)):
                self.assertEqual(mirror(2, *point, room), mirror(6, *point, room))
        for x, y in itertools.product(range(-3, 12), repeat=2):
            self.check(STEP, 2, (x, y, 1), (x, 4 - y, 1))
            self.check(STEP, 6, (x, y, 1), (x, 4 - y, 1))
            self.check(turned, 2, (x, y, 1), (8 - x, y, 1))
            # y = x, for (4, 2), (6, 2) become (6, 6), (8, 8); and y = 14 - x, for they become (6, 8), (4, 10).
            self.check(turned_by_an_eighth(STEP, 4), 2, (x, y, 1), (y, x, 1))
            self.check(turned_by_an_eighth(turned, 6), 2, (x, y, 1), (14 - y, 14 - x, 1))

    def test_how_high_the_room_is_counts_for_the_ceiling_alone(self):
        for h in (1, 2, 4095):
            for z in (-1, 0, 1, h - 1, h, h + 1, 2 * h):
                for wall in range(4):
                    x, y = [(2, -3), (10, 3), (2, 5), (-2, 3)][wall]
                    self.check(BOX, wall, (2, 3, z), (x, y, z), h)
                self.check(BOX, 4, (2, 3, z), (2, 3, -z), h)
                self.check(BOX, 5, (2, 3, z), (2, 3, 2 * h - z), h)

    def test_stuffs_do_not_count(self):
        for stuff in range(8):
            room = room_of(DIAMOND, h=5, floor=stuff, ceiling=7 - stuff, stuff=stuff)
            answers = [mirror(wall, 3, 4, 1, room) for wall in range(6)]
            self.assertEqual(answers, [[0, 7, 0, 1], [0, 5, 6, 1], [0, 1, 6, 1], [0, -1, 0, 1], [0, 3, 4, -1],
                                       [0, 3, 4, 9]])


class WhichWalls(unittest.TestCase):
    def test_the_last_walls_that_there_are(self):
        # With 3, 4 and 64 corners: the last side wall, at x = 0, the floor and the ceiling.
        for corners in (TRIANGLE, BOX, WIDE_COMB, WIDE_STAIRCASE):
            n = len(corners)
            room = room_of(corners, h=5)
            self.assertEqual(mirror(n - 1, 1, 2, 3, room), [0, -1, 2, 3])
            self.assertEqual(mirror(n, 1, 2, 3, room), [0, 1, 2, -3])
            self.assertEqual(mirror(n + 1, 1, 2, 3, room), [0, 1, 2, 7])

    def test_walls_that_there_are_not(self):
        for corners in KNOWN:
            n = len(corners)
            for wall in (n + 2, n + 3, 2 * n + 4, 100, 4096, 2 ** 64, 2 ** 64 + 1, HIGHEST - 1, HIGHEST):
                for point in ((1, 1, 1), (0, 0, 0), (-3, 9, 70), (LOWEST, HIGHEST, LOWEST)):
                    self.assertEqual(mirror(wall, *point, room_of(corners)), [-1])

    def test_every_wall_is_answered(self):
        for corners in KNOWN:
            room = room_of(corners)
            answers = [mirror(wall, 1, 1, 1, room)[0] for wall in range(len(corners) + 4)]
            self.assertEqual(answers, [0] * (len(corners) + 2) + [-1, -1])


class LargeNumbers(Case):
    def test_one_at_a_time(self):
        for far in (LOWEST, HIGHEST):
            room = room_of(BOX, h=5)
            self.assertEqual(mirror(0, 2, far, 1, room), [0, 2, -far, 1])
            self.assertEqual(mirror(0, far, 3, 1, room), [0, far, -3, 1])
            self.assertEqual(mirror(1, far, 3, 1, room), [0, 12 - far, 3, 1])
            self.assertEqual(mirror(1, 2, far, 1, room), [0, 10, far, 1])
            self.assertEqual(mirror(2, 2, far, 1, room), [0, 2, 8 - far, 1])
            self.assertEqual(mirror(3, far, 3, far, room), [0, -far, 3, far])
            self.assertEqual(mirror(4, 2, 3, far, room), [0, 2, 3, -far])
            self.assertEqual(mirror(5, 2, 3, far, room), [0, 2, 3, 10 - far])
            room = room_of(DIAMOND, h=5)
            self.assertEqual(mirror(0, far, 1, 2, room), [0, 4, far - 3, 2])
            self.assertEqual(mirror(1, far, 1, 2, room), [0, 8, 9 - far, 2])
            self.assertEqual(mirror(2, 1, far, 2, room), [0, far - 3, 4, 2])
            self.assertEqual(mirror(3, 1, far, 2, room), [0, 3 - far, 2, 2])
            self.assertEqual(mirror(0, far, far, far, room), [0, far + 3, far - 3, far])

    def check(self, corners, walls, points):
        room = room_of(corners, h=5)
        for wall, point in itertools.product(walls, points):
            mirrored = self.mirrored(wall, point, room)
            self.assertEqual(mirrored, expected(corners, 5, wall, point), (corners, wall))
            self.assertEqual(self.mirrored(wall, mirrored, room), point)

    def test_all_together(self):
        for corners in (TRIANGLE, BOX, DIAMOND, OCTAGON, ARROW, CROWN, LARGEST_BOX):
            self.check(corners, walls_of(corners), itertools.product((LOWEST, LOWEST + 1, 1, HIGHEST), repeat=3))
        for corners in WITH_64_CORNERS:
            self.check(corners, (0, 1, 32, 63, 64, 65), [(LOWEST, HIGHEST, LOWEST), (HIGHEST, LOWEST, HIGHEST)])


class Promised(Case):
    """What the promises say, over many walls and points, and that each stands straight across, as far."""

    def rooms(self):
        known = [turned for corners in (TRIANGLE, DIAMOND, OCTAGON, ARROW) for turned in all_ways_round(corners, 12)]
        return small_rooms(3, 3) + small_rooms(2, 4) + known + [scaled(CROWN, 341), CUP, SPIRAL, LARGEST_BOX]

    def points(self):
        return list(itertools.product((-5, 0, 1, 4, 11), repeat=2)) + [(3, 5000), (-4001, 2), (77, -78)]

    def test_straight_across_as_far(self):
        for corners in self.rooms():
            room = room_of(corners, h=5)
            for wall, ((a, b), (along_x, along_y)) in enumerate(planes(corners)):
                for x, y in self.points():
                    u, v, w = self.mirrored(wall, (x, y, 4), room)
                    self.assertEqual(w, 4)
                    # Straight across: no way along the plane. As far on the other side: the middle is on the plane.
                    self.assertEqual((u - x) * along_x + (v - y) * along_y, 0)
                    middle = (x + u - 2 * a, y + v - 2 * b)
                    self.assertEqual(middle[0] * along_y, middle[1] * along_x)

    def check_by_kinds(self, corners, points):
        room = room_of(corners, h=5)
        for wall in walls_of(corners):
            for x, y in points:
                point = (x, y, x + 2)
                self.assertEqual(self.mirrored(wall, point, room), expected(corners, 5, wall, point), (corners, wall))

    def test_as_reckoned_by_kinds_of_planes(self):
        for corners in self.rooms():
            self.check_by_kinds(corners, self.points())
        for corners in WITH_64_CORNERS:
            self.check_by_kinds(corners, [(5, 3), (-70, 2)])

    def test_mirrored_twice(self):
        for corners in self.rooms():
            room = room_of(corners, h=5)
            for wall in walls_of(corners):
                for x, y in self.points():
                    point = (x, y, y - 3)
                    self.assertEqual(self.mirrored(wall, self.mirrored(wall, point, room), room), point)

    def test_distances_are_kept(self):
        points = [(-5, 0, 1), (0, 0, 0), (3, 1, 4), (2, 8, 5), (-1, -6, 9), (4000, 7, -300), (LOWEST, HIGHEST, 17)]
        for corners in self.rooms():
            room = room_of(corners, h=5)
            for wall in walls_of(corners):
                mirrored = [self.mirrored(wall, point, room) for point in points]
                for one, other in itertools.combinations(range(len(points)), 2):
                    self.assertEqual(square_distance(mirrored[one], mirrored[other]),
                                     square_distance(points[one], points[other]))

    def test_points_on_the_plane_stay_and_no_others(self):
        for corners in self.rooms():
            room = room_of(corners, h=5)
            for wall, ((a, b), (along_x, along_y)) in enumerate(planes(corners)):
                for x, y in self.points() + list(corners):
                    on_plane = (x - a) * along_y == (y - b) * along_x
                    self.assertEqual(self.mirrored(wall, (x, y, 1), room) == (x, y, 1), on_plane)
            for z in range(-2, 8):
                self.assertEqual(self.mirrored(len(corners), (1, 2, z), room) == (1, 2, z), z == 0)
                self.assertEqual(self.mirrored(len(corners) + 1, (1, 2, z), room) == (1, 2, z), z == 5)


class Faults(unittest.TestCase):
    def test_each_rule(self):
        for room, rule, wall in FAULTS:
            self.assertEqual(judge(room), [-5, rule, wall])
            corners = max(0, len(room) // 3 - 1)
            for asked in (0, 1, corners, corners + 1, corners + 2, 66, 1000, HIGHEST):
                for point in ((1, 1, 1), (0, 0, 0), (-1, 0, 9), (LOWEST, LOWEST, LOWEST), (HIGHEST, HIGHEST, HIGHEST)):
                    with self.subTest(room=room, asked=asked, point=point):
                        self.assertEqual(mirror(asked, *point, room), [-5, rule, wall])

    def test_large_numbers_in_every_place(self):
        for at, number in itertools.product(range(len(room_of(OCTAGON))), (LOWEST, HIGHEST)):
            room = room_of(OCTAGON)
            room[at] = number
            self.assertEqual(judge(room)[0], -5)
            for wall in (0, 9, 10, HIGHEST):
                self.assertEqual(mirror(wall, 1, 1, 1, room), judge(room))


class EachCallByItself(unittest.TestCase):
    ASKED = [(0, 1, 1, 1), (1, -2, 5, 7), (4, 3, 3, 3), (5, 3, 3, 3), (66, 0, 0, 0), (2, LOWEST, HIGHEST, 0)]

    def rooms(self):
        return [room_of(corners) for corners in KNOWN] + [room for room, rule, wall in FAULTS]

    def test_nothing_is_changed_or_kept(self):
        for room in self.rooms():
            for asked in self.ASKED:
                check_keeps_nothing(self, lambda handed: mirror(*asked, handed), room)

    def test_plain_answers(self):
        for room in self.rooms():
            for asked in self.ASKED:
                check_plain_answer(self, mirror(*asked, room))


if __name__ == "__main__":
    unittest.main()
