import itertools
import unittest

from roomacoustics.rooms import judge, where
from samples import (
    ARROW, BOX, CROWN, CUP, DIAMOND, FAULTS, FINE, HIGHEST, LARGEST_BOX, LOWEST, OCTAGON, SPIRAL, TRIANGLE, WIDE_COMB,
    WIDE_STAIRCASE, all_ways_round, check_keeps_nothing, check_plain_answer, comb, points_kept_dry, room_of, scaled,
    small_rooms, staircase, started_at, turned_by_an_eighth, walked_points,
)

# What is told at z = -1, 0, 1, 2, 3 and 4 in a room of the height 3, by where the point is in plan.
WITHIN = [0, 1, 2, 2, 1, 0]
ON_A_LINE = [0, 1, 1, 1, 1, 0]
OUTSIDE = [0, 0, 0, 0, 0, 0]

# Of each room points in plan: within its lines, on a line between its corners, outside.
BY_HAND = [
    (BOX,
     [(1, 1), (3, 2), (5, 3), (1, 3), (5, 1)],
     [(1, 0), (3, 0), (5, 0), (6, 1), (6, 3), (5, 4), (1, 4), (0, 3), (0, 1)],
     [(-1, 2), (7, 2), (3, -1), (3, 5), (-1, -1), (7, -1), (7, 5), (-1, 5)]),
    (TRIANGLE,
     [(1, 1), (2, 1), (1, 2)],
     [(1, 0), (3, 0), (3, 1), (2, 2), (1, 3), (0, 3), (0, 1)],
     [(3, 2), (2, 3), (4, 4), (4, 1), (1, 4), (-1, 2), (2, -1)]),
    # Lines in all four slanted directions, and in no other.
    (DIAMOND,
     [(3, 3), (3, 1), (5, 3), (3, 5), (1, 3), (2, 2), (4, 4), (2, 4), (4, 2)],
     [(4, 1), (5, 2), (5, 4), (4, 5), (2, 5), (1, 4), (1, 2), (2, 1)],
     [(0, 0), (6, 0), (6, 6), (0, 6), (1, 1), (5, 1), (5, 5), (1, 5), (5, 0), (6, 1), (6, 5), (0, 1)]),
    # Lines in all eight directions.
    (scaled(OCTAGON, 2),
     [(1, 2), (2, 1), (3, 3), (4, 5), (5, 4), (1, 4), (2, 5), (4, 1), (5, 2)],
     [(3, 0), (5, 1), (6, 3), (5, 5), (3, 6), (1, 5), (0, 3), (1, 1)],
     [(0, 0), (1, 0), (0, 1), (6, 0), (5, 0), (6, 1), (6, 6), (5, 6), (6, 5), (0, 6), (1, 6), (0, 5)]),
    (CUP,
     [(1, 1), (4, 1), (8, 1), (1, 4), (2, 2), (2, 4), (7, 2), (7, 4), (8, 4), (3, 1), (6, 1)],
     [(5, 0), (9, 3), (8, 5), (6, 4), (6, 3), (5, 2), (4, 2), (3, 3), (3, 4), (2, 5), (0, 1)],
     # The first six in the notch.
     [(4, 3), (5, 3), (4, 4), (5, 4), (4, 5), (5, 5), (4, 6), (-1, 3), (10, 3), (1, 6), (8, 6), (4, -1)]),
    (ARROW,
     [(1, 2), (4, 5), (7, 2), (3, 4), (5, 4), (1, 7), (7, 7), (2, 3), (6, 3)],
     [(1, 1), (3, 3), (5, 3), (7, 1), (8, 4), (4, 8), (0, 4), (0, 1), (8, 1)],
     [(4, 3), (3, 2), (5, 2), (4, 0), (2, 1), (6, 1), (1, 0), (7, 0), (4, -1), (9, 4), (-1, 4), (4, 9)]),
    (SPIRAL,
     [(1, 1), (9, 1), (9, 9), (3, 9), (3, 5), (5, 5), (9, 5), (3, 6), (3, 7), (5, 9), (8, 1)],
     [(5, 0), (10, 5), (5, 10), (2, 5), (4, 4), (6, 5), (5, 6), (4, 7), (5, 8), (8, 5), (5, 2), (0, 1)],
     [(5, 7), (7, 7), (7, 3), (3, 3), (1, 3), (1, 9), (7, 5), (6, 7), (1, 5), (-1, 1), (11, 5), (5, 11)]),
    (WIDE_COMB,
     [(1, 1), (61, 1), (1, 2), (1, 19), (3, 1), (5, 2), (5, 19), (33, 10), (57, 19), (61, 19)],
     [(1, 0), (30, 0), (61, 0), (62, 10), (61, 20), (60, 10), (59, 2), (58, 10), (31, 2), (5, 20), (1, 20), (0, 10)],
     [(3, 3), (3, 19), (3, 20), (31, 3), (59, 3), (59, 20), (63, 1), (-1, 1), (30, 21), (30, -1)]),
    (WIDE_STAIRCASE,
     [(1, 1), (31, 31), (61, 1), (1, 61), (31, 29), (59, 1), (59, 3), (3, 59)],
     [(31, 0), (62, 1), (61, 2), (60, 3), (59, 4), (32, 31), (31, 32), (2, 61), (1, 62), (0, 31)],
     [(33, 32), (33, 31), (61, 3), (62, 3), (3, 61), (33, 33), (62, 62), (63, 1), (1, 63), (-1, 31), (31, -1)]),
]
BY_HAND += [[turned_by_an_eighth(points, 62) for points in entry] for entry in BY_HAND if len(entry[0]) == 64]


def column(corners, x, y):
    """What is told of the point from below the floor to above the ceiling."""
    room = room_of(corners, h=3)
    return [where(x, y, z, room)[0] for z in range(-1, 5)]


class ByHand(unittest.TestCase):
    def check(self, corners, points, expected):
        for x, y in points:
            with self.subTest(corners=corners, x=x, y=y):
                self.assertEqual(column(corners, x, y), expected)

    def test_within_the_lines(self):
        for corners, within, on, outside in BY_HAND:
            self.check(corners, within, WITHIN)

    def test_on_a_side_wall(self):
        for corners, within, on, outside in BY_HAND:
            self.check(corners, on, ON_A_LINE)

    def test_on_the_edge_between_two_side_walls(self):
        for corners, within, on, outside in BY_HAND:
            # Of 64 corners every seventh: some of each sort.
            self.check(corners, corners[::7] if len(corners) == 64 else corners, ON_A_LINE)

    def test_outside_in_plan(self):
        for corners, within, on, outside in BY_HAND:
            self.check(corners, outside, OUTSIDE)

    def test_four_have_64_corners(self):
        self.assertEqual([len(entry[0]) for entry in BY_HAND[-4:]], [64] * 4)

    def test_one_after_the_other(self):
        room = room_of(BOX, h=3)
        self.assertEqual(where(1, 2, 1, room), [2])
        self.assertEqual(where(6, 2, 1, room), [1])
        self.assertEqual(where(1, 2, 0, room), [1])
        self.assertEqual(where(1, 2, 3, room), [1])
        self.assertEqual(where(6, 4, 1, room), [1])
        self.assertEqual(where(6, 2, 0, room), [1])
        self.assertEqual(where(6, 2, 3, room), [1])
        self.assertEqual(where(6, 4, 3, room), [1])
        self.assertEqual(where(7, 2, 1, room), [0])
        self.assertEqual(where(1, 2, 4, room), [0])
        self.assertEqual(where(1, 2, -1, room), [0])

    def test_x_y_and_z_are_not_changed_about(self):
        room = room_of([(10, 20), (13, 20), (13, 25), (10, 25)], h=7)
        self.assertEqual(where(11, 24, 6, room), [2])
        for x, y, z in ((24, 11, 6), (11, 6, 24), (6, 24, 11)):
            self.assertEqual(where(x, y, z, room), [0])

    def test_stuffs_do_not_count(self):
        for stuff in range(8):
            room = room_of(CUP, h=3, floor=stuff, ceiling=7 - stuff, stuff=stuff)
            self.assertEqual([where(x, 2, 1, room)[0] for x in range(-1, 11)], [0, 1, 2, 2, 1, 1, 1, 1, 2, 2, 1, 0])


class Heights(unittest.TestCase):
    def test_the_lowest_room_has_no_whole_point_inside(self):
        room = room_of(BOX, h=1)
        self.assertEqual([where(3, 2, z, room)[0] for z in range(-1, 3)], [0, 1, 1, 0])
        self.assertEqual([where(6, 2, z, room)[0] for z in range(-1, 3)], [0, 1, 1, 0])

    def test_the_highest_room(self):
        room = room_of(BOX, h=4095)
        heights = (-1, 0, 1, 4094, 4095, 4096)
        self.assertEqual([where(3, 2, z, room)[0] for z in heights], [0, 1, 2, 2, 1, 0])
        self.assertEqual([where(6, 2, z, room)[0] for z in heights], [0, 1, 1, 1, 1, 0])
        self.assertEqual([where(7, 2, z, room)[0] for z in heights], [0, 0, 0, 0, 0, 0])

    def test_the_largest_room(self):
        room = room_of(LARGEST_BOX, h=4095)
        self.assertEqual(where(4094, 4094, 4094, room), [2])
        self.assertEqual(where(1, 1, 1, room), [2])
        for x, y, z in itertools.product((0, 4095), repeat=3):
            self.assertEqual(where(x, y, z, room), [1])
        for number in (-1, 4096):
            self.assertEqual(where(number, 1, 1, room), [0])
            self.assertEqual(where(1, number, 1, room), [0])
            self.assertEqual(where(1, 1, number, room), [0])


class StraightAheadOfALine(unittest.TestCase):
    def test_of_convex_rooms(self):
        for corners in (TRIANGLE, BOX, DIAMOND, OCTAGON, scaled(OCTAGON, 2)):
            for (x, y), (u, v) in zip(corners, started_at(corners, 1)):
                across, up = (u > x) - (u < x), (v > y) - (v < y)
                for steps in (1, 2, 3, 100, 5000, 2 ** 200):
                    self.assertEqual(column(corners, u + steps * across, v + steps * up), OUTSIDE)
                    self.assertEqual(column(corners, x - steps * across, y - steps * up), OUTSIDE)

    def test_outside_in_a_notch(self):
        # From the one arm's end straight to the other's.
        self.assertEqual(column(CUP, 4, 5), OUTSIDE)
        self.assertEqual(column(CUP, 5, 5), OUTSIDE)

    def test_within_the_room(self):
        for corners, x, y in ((CUP, 6, 1), (CUP, 3, 1), (CUP, 2, 2), (CUP, 7, 2), (ARROW, 5, 5), (ARROW, 3, 5)):
            self.assertEqual(column(corners, x, y), WITHIN)

    def test_on_another_line(self):
        for corners, x, y in ((CUP, 6, 0), (CUP, 3, 0), (CUP, 0, 2), (CUP, 9, 2), (ARROW, 8, 8), (ARROW, 0, 8)):
            self.assertEqual(column(corners, x, y), ON_A_LINE)


# Rooms looked at from above, larger y further up: the points from -1 to one beyond the largest x and y.
PICTURES = [
    # Both lines of (3, 3) and of (9, 3) go up, both of (6, 6) go down.
    (CROWN, ["000000000000000",
             "010000010000010",
             "011000121000110",
             "012101222101210",
             "012212222212210",
             "012222222222210",
             "012222222222210",
             "011111111111110",
             "000000000000000"]),
    # At each corner one line lies along x; the one that goes on from there goes up, then down, or the other way.
    (CUP, ["000000000000",
           "011110011110",
           "012210012210",
           "012210012210",
           "012211112210",
           "012222222210",
           "011111111110",
           "000000000000"]),
    (staircase(3, 2), ["000000000",
                       "011100000",
                       "012100000",
                       "012111000",
                       "012221000",
                       "012221110",
                       "012222210",
                       "011111110",
                       "000000000"]),
    # At (0, 3) and (6, 3) one line goes up, one down.
    (DIAMOND, ["000000000",
               "000010000",
               "000121000",
               "001222100",
               "012222210",
               "001222100",
               "000121000",
               "000010000",
               "000000000"]),
    (ARROW, ["00000000000",
             "01111111110",
             "01222222210",
             "01222222210",
             "01222222210",
             "01222122210",
             "01221012210",
             "01210001210",
             "01100000110",
             "01000000010",
             "00000000000"]),
    (SPIRAL, ["0000000000000",
              "0001111111110",
              "0001222222210",
              "0001211111210",
              "0001210001210",
              "0001211101210",
              "0001222101210",
              "0001111101210",
              "0000000001210",
              "0111111111210",
              "0122222222210",
              "0111111111110",
              "0000000000000"]),
]


class Pictures(unittest.TestCase):
    """Among the points of each row that a corner is in there are such as lie inside and such as lie outside."""

    def draw(self, corners, z):
        room = room_of(corners, h=2)
        wide = max(x for x, y in corners) + 2
        high = max(y for x, y in corners) + 2
        rows = ["".join(str(where(x, y, z, room)[0]) for x in range(-1, wide)) for y in range(-1, high)]
        return rows[::-1]

    def test_at_half_the_height(self):
        for corners, picture in PICTURES:
            self.assertEqual(self.draw(corners, 1), picture)

    def test_at_the_floor_and_at_the_ceiling(self):
        for corners, picture in PICTURES:
            surface = [row.replace("2", "1") for row in picture]
            self.assertEqual(self.draw(corners, 0), surface)
            self.assertEqual(self.draw(corners, 2), surface)

    def test_below_and_above(self):
        for corners, picture in PICTURES:
            nothing = ["0" * len(row) for row in picture]
            self.assertEqual(self.draw(corners, -1), nothing)
            self.assertEqual(self.draw(corners, 3), nothing)

    def test_upside_down(self):
        for corners, picture in PICTURES:
            wide = max(x for x, y in corners)
            high = max(y for x, y in corners)
            over = [(wide - x, high - y) for x, y in corners]
            self.assertEqual(self.draw(over, 1), [row[::-1] for row in picture[::-1]])


class LargeNumbers(unittest.TestCase):
    def test_any_of_the_three(self):
        for corners in (BOX, DIAMOND, CUP, LARGEST_BOX, WIDE_STAIRCASE):
            room = room_of(corners, h=3)
            # Beside the large numbers stand such as lie inside, on an edge, at a corner or outside.
            for point in itertools.product((LOWEST, HIGHEST, 0, 1, 3), repeat=3):
                if LOWEST in point or HIGHEST in point:
                    self.assertEqual(where(*point, room), [0])

    def test_far_along_a_slanted_line(self):
        for corners in (DIAMOND, TRIANGLE, ARROW):
            room = room_of(corners, h=3)
            for far in (2 ** 256 - 10, 10 - 2 ** 256):
                for shift in range(-9, 10):
                    self.assertEqual(where(far, far + shift, 1, room), [0])
                    self.assertEqual(where(far, -far + shift, 1, room), [0])


class Faults(unittest.TestCase):
    def test_each_rule(self):
        points = [(1, 1, 1), (0, 0, 0), (-1, -1, -1), (LOWEST, LOWEST, LOWEST), (HIGHEST, HIGHEST, HIGHEST)]
        for room, rule, wall in FAULTS:
            for x, y, z in points:
                with self.subTest(room=room, x=x):
                    self.assertEqual(where(x, y, z, room), [-5, rule, wall])
                    self.assertEqual(judge(room), [-5, rule, wall])

    def test_large_numbers_in_every_place(self):
        for number in (LOWEST, HIGHEST):
            for at in range(len(room_of(OCTAGON))):
                room = room_of(OCTAGON)
                room[at] = number
                self.assertEqual(where(1, 1, 1, room), [-5, 2, 0] if at < 3 else [-5, 3, (at - 3) // 3])

    def test_as_judge(self):
        places = list(itertools.product(range(3), repeat=2))
        for corners in itertools.product(places, repeat=4):
            room = room_of(corners)
            judged = judge(room)
            if judged == [0]:
                self.assertIn(where(1, 1, 1, room), ([0], [1], [2]))
            else:
                self.assertEqual(where(1, 1, 1, room), judged)


class EachCallByItself(unittest.TestCase):
    POINTS = [(1, 1, 1), (0, 0, 0), (-1, 5, 2), (LOWEST, 0, HIGHEST)]

    def rooms(self):
        return [room_of(entry[0]) for entry in BY_HAND] + [entry[0] for entry in FAULTS]

    def test_nothing_is_changed_or_kept(self):
        for room in self.rooms():
            for x, y, z in self.POINTS:
                check_keeps_nothing(self, lambda handed: where(x, y, z, handed), room)

    def test_plain_answers(self):
        for room in self.rooms():
            for x, y, z in self.POINTS:
                check_plain_answer(self, where(x, y, z, room))

    def test_points_one_after_the_other_in_any_order(self):
        room = room_of(CUP)
        points = list(itertools.product(range(-1, 11), range(-1, 7), range(-1, 5)))
        forward = [where(*point, room) for point in points]
        backward = [where(*point, room) for point in reversed(points)]
        self.assertEqual(forward, backward[::-1])


# What follows compares with how far water from outside comes.

class SecondWay(unittest.TestCase):
    def compare(self, corners, side, step=1):
        """How many points were inside."""
        on = walked_points(corners)
        inside = points_kept_dry(corners, side)
        room = room_of(corners, h=3)
        found = 0
        for x, y in itertools.product(range(-1, side + 2, step), repeat=2):
            fine = (FINE * x, FINE * y)
            expected = 1 if fine in on else 2 if fine in inside else 0
            found += expected == 2
            self.assertEqual(where(x, y, 1, room), [expected], (corners, x, y))
        return found

    def compare_all(self, side, n):
        rooms = small_rooms(side, n)
        self.assertGreater(len(rooms), 50)
        self.assertGreater(sum(self.compare(corners, side) for corners in rooms), 50)

    def test_all_rooms_of_three_corners(self):
        self.compare_all(5, 3)

    def test_all_rooms_of_four_corners(self):
        self.compare_all(4, 4)

    def test_all_rooms_of_five_corners(self):
        self.compare_all(3, 5)

    def test_all_rooms_of_six_corners(self):
        self.compare_all(3, 6)

    def test_known_rooms_all_ways_round(self):
        for corners in (TRIANGLE, BOX, DIAMOND, scaled(OCTAGON, 3), CUP, ARROW, CROWN, SPIRAL, scaled(comb(3, 6), 2)):
            for turned in all_ways_round(corners, 12):
                self.assertGreater(self.compare(turned, 12), 0)

    def test_whichever_corner_is_first(self):
        for corners in (OCTAGON, CUP, ARROW, CROWN, SPIRAL):
            for first in range(len(corners)):
                self.compare(started_at(corners, first), 12, 2)

    def test_64_corners(self):
        for corners in (WIDE_COMB, WIDE_STAIRCASE, staircase(31)):
            self.assertGreater(self.compare(corners, 62, 7), 0)
        self.assertGreater(self.compare(turned_by_an_eighth(WIDE_COMB, 20), 110, 9), 0)


if __name__ == "__main__":
    unittest.main()
