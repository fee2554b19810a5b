import functools
import itertools
import unittest
from fractions import Fraction

from roomacoustics.rooms import clear, judge, where
from samples import (
    ARROW, BOX, CROWN, CUP, DIAMOND, FAULTS, FINE, HIGHEST, LARGEST_BOX, LARGE_ANGLE, LOWEST, OCTAGON, SPIRAL, TRIANGLE,
    WIDE_COMB, WIDE_OCTAGON, WIDE_STAIRCASE, all_ways_round, check_keeps_nothing, check_plain_answer, piece_of,
    points_kept_dry, room_of, scaled, small_rooms, started_at, turned_by_an_eighth,
)

# Of each room, 8 high, pairs of points that see each other: along x, along y, along z, slanted in plan, slanted upward,
# in none of the eight directions.
IN_SIGHT = [
    (BOX, [((1, 1, 1), (5, 1, 1)), ((1, 3, 7), (1, 1, 7)), ((2, 2, 1), (2, 2, 7)), ((1, 1, 4), (3, 3, 4)),
           ((1, 2, 1), (5, 2, 5)), ((1, 1, 1), (5, 2, 7))]),
    (WIDE_OCTAGON, [((1, 4, 1), (8, 4, 1)), ((5, 8, 2), (5, 1, 2)), ((3, 1, 1), (3, 1, 7)), ((2, 2, 4), (7, 7, 4)),
                    ((7, 2, 7), (2, 7, 2)), ((1, 3, 1), (8, 5, 2))]),
    (DIAMOND, [((1, 3, 1), (5, 3, 1)), ((3, 1, 2), (3, 5, 2)), ((3, 3, 7), (3, 3, 1)), ((2, 2, 4), (4, 4, 4)),
               ((2, 4, 1), (4, 2, 3)), ((1, 3, 5), (4, 4, 1))]),
    (CUP, [((1, 1, 1), (8, 1, 1)), ((2, 1, 2), (2, 4, 2)), ((7, 4, 1), (7, 4, 7)), ((1, 1, 4), (2, 2, 4)),
           ((8, 2, 1), (7, 1, 2)), ((1, 4, 3), (3, 1, 4))]),
    (ARROW, [((1, 5, 1), (7, 5, 1)), ((1, 2, 2), (1, 7, 2)), ((4, 6, 1), (4, 6, 7)), ((1, 2, 4), (6, 7, 4)),
             ((7, 2, 7), (2, 7, 2)), ((1, 2, 3), (3, 7, 4))]),
    (WIDE_COMB, [((1, 1, 1), (61, 1, 1)), ((33, 1, 2), (33, 19, 2)), ((61, 19, 1), (61, 19, 7)),
                 ((1, 2, 4), (2, 1, 4)), ((5, 1, 1), (5, 7, 7)), ((1, 19, 1), (2, 1, 2))]),
    (WIDE_STAIRCASE, [((1, 1, 1), (61, 1, 1)), ((1, 61, 2), (1, 1, 2)), ((3, 59, 7), (3, 59, 1)),
                      ((60, 1, 4), (1, 60, 4)), ((1, 1, 7), (7, 7, 1)), ((1, 1, 1), (31, 30, 6))]),
]


def look(p, q, corners, h=8):
    return clear(*p, *q, room_of(corners, h=h))


class Case(unittest.TestCase):
    def check(self, p, q, corners, expected, h=8):
        """Both ways round: what's clear one way is clear the other way."""
        with self.subTest(p=p, q=q, corners=corners):
            self.assertEqual(look(p, q, corners, h), [expected])
            self.assertEqual(look(q, p, corners, h), [expected])


class InSight(Case):
    def test_by_hand(self):
        for corners, pairs in IN_SIGHT:
            for p, q in pairs:
                self.check(p, q, corners, 1)

    def test_two_have_64_corners(self):
        self.assertEqual([len(corners) for corners, pairs in IN_SIGHT[-2:]], [64, 64])

    def test_whichever_corner_is_first(self):
        for corners, pairs in IN_SIGHT[:-2]:
            for first in range(len(corners)):
                for p, q in pairs:
                    self.check(p, q, started_at(corners, first), 1)

    def test_slanted_lines_alone(self):
        for corners, pairs in IN_SIGHT[-2:]:
            for p, q in pairs:
                (x, y), (u, v) = turned_by_an_eighth([p[:2], q[:2]], 62)
                self.check((x, y, p[2]), (u, v, q[2]), turned_by_an_eighth(corners, 62), 1)

    def test_stuffs_do_not_count(self):
        for stuff in range(8):
            room = room_of(CUP, h=3, floor=stuff, ceiling=7 - stuff, stuff=stuff)
            self.assertEqual(clear(1, 1, 1, 8, 1, 2, room), [1])
            self.assertEqual(clear(1, 4, 1, 8, 4, 2, room), [0])

    def test_from_one_end_of_the_largest_room_to_the_other(self):
        self.check((1, 1, 1), (4094, 4094, 4094), LARGEST_BOX, 1, h=4095)
        self.check((1, 4094, 1), (4094, 1, 4094), LARGEST_BOX, 1, h=4095)
        self.check((1, 1, 4094), (4094, 4093, 1), LARGEST_BOX, 1, h=4095)


class SamePoint(Case):
    def test_inside(self):
        for corners, pairs in IN_SIGHT:
            for point in itertools.chain(*pairs):
                self.check(point, point, corners, 1)

    def test_not_inside(self):
        # On walls, at edges and corners, outside, in the notch.
        for x, y in ((0, 3), (9, 1), (5, 2), (5, 0), (0, 0), (6, 2), (-1, 3), (10, 3), (5, 4), (4, 5), (4, -1)):
            for z in (-1, 0, 4, 8, 9):
                self.check((x, y, z), (x, y, z), CUP, 0)
        for z in (LOWEST, -1, 0, 8, 9, HIGHEST):
            self.check((1, 1, z), (1, 1, z), CUP, 0)


class OneAboveTheOther(Case):
    def test_inside(self):
        for corners, pairs in IN_SIGHT[:-2]:
            for x, y, z in itertools.chain(*pairs):
                for height in range(1, 8):
                    self.check((x, y, z), (x, y, height), corners, 1)

    def test_not_both_inside(self):
        for x, y in ((1, 1), (4, 1), (7, 4)):
            for z in (-1, 0, 8, 9, LOWEST, HIGHEST):
                self.check((x, y, 4), (x, y, z), CUP, 0)
            self.check((x, y, 0), (x, y, 8), CUP, 0)
            self.check((x, y, -1), (x, y, 9), CUP, 0)

    def test_on_a_wall_or_outside(self):
        for x, y in ((0, 3), (6, 4), (5, 2), (0, 0), (3, 2), (-1, 3), (5, 4), (4, 5)):
            self.check((x, y, 1), (x, y, 7), CUP, 0)


class NotBothInside(Case):
    def test_all_points_between_them_are_inside(self):
        middle = (3, 2, 4)
        on_the_surface = [
            (0, 2, 4), (6, 2, 4), (3, 0, 4), (3, 4, 4), (0, 1, 1), (3, 2, 0), (3, 2, 8), (1, 1, 0), (5, 3, 8),
            (0, 2, 0), (3, 4, 8), (0, 0, 4), (6, 4, 1), (0, 0, 0), (6, 4, 8), (0, 4, 0), (6, 0, 8),
        ]
        for point in on_the_surface:
            self.assertEqual(where(*point, room_of(BOX, h=8)), [1])
            self.check(middle, point, BOX, 0)
        for one, other in (((0, 2, 4), (6, 2, 4)), ((3, 0, 4), (3, 4, 4)), ((3, 2, 0), (3, 2, 8)),
                           ((0, 0, 0), (6, 4, 8)), ((0, 0, 4), (6, 4, 4)), ((0, 2, 0), (6, 2, 8))):
            self.check(one, other, BOX, 0)

    def test_on_a_slanted_wall(self):
        for point in ((4, 1, 4), (5, 4, 4), (2, 5, 4), (1, 2, 4), (3, 0, 4), (6, 3, 4)):
            self.check((3, 3, 4), point, DIAMOND, 0)
        self.check((1, 2, 4), (5, 4, 4), DIAMOND, 0)
        self.check((0, 3, 4), (6, 3, 4), DIAMOND, 0)

    def test_outside(self):
        middle = (3, 2, 4)
        outside = [(-1, 2, 4), (7, 2, 4), (3, -1, 4), (3, 5, 4), (3, 2, -1), (3, 2, 9), (-1, -1, -1), (7, 5, 9),
                   (7, 4, 4), (6, 5, 4), (0, 2, -1), (0, 2, 9)]
        for point in outside:
            self.assertEqual(where(*point, room_of(BOX, h=8)), [0])
            self.check(middle, point, BOX, 0)
        for one, other in itertools.product(outside, repeat=2):
            self.check(one, other, BOX, 0)

    def test_along_a_wall(self):
        self.check((1, 0, 4), (5, 0, 4), BOX, 0)
        self.check((0, 0, 4), (6, 0, 4), BOX, 0)
        self.check((1, 1, 0), (5, 3, 0), BOX, 0)
        self.check((1, 1, 8), (5, 3, 8), BOX, 0)
        self.check((4, 1, 4), (5, 2, 4), DIAMOND, 0)


class AroundACorner(Case):
    def test_leaves_the_room_and_comes_back(self):
        self.check((1, 4, 4), (8, 4, 4), CUP, 0)
        self.check((2, 3, 1), (7, 3, 7), CUP, 0)
        self.check((1, 4, 4), (7, 3, 4), CUP, 0)
        self.check((1, 4, 4), (7, 1, 4), CUP, 0)
        self.check((1, 2, 4), (7, 2, 4), ARROW, 0)
        self.check((1, 2, 4), (6, 3, 4), ARROW, 0)
        self.check((1, 4, 4), (11, 4, 4), CROWN, 0)
        self.check((1, 4, 4), (6, 5, 4), CROWN, 0)
        self.check((5, 5, 4), (9, 5, 4), SPIRAL, 0)
        self.check((1, 1, 4), (3, 9, 4), SPIRAL, 0)
        self.check((1, 19, 4), (61, 19, 4), WIDE_COMB, 0)
        self.check((1, 19, 4), (5, 19, 4), WIDE_COMB, 0)
        self.check((5, 19, 4), (10, 1, 4), WIDE_COMB, 0)

    def test_touches_a_corner_alone(self):
        # Along x, along y, slanted, in none of the eight directions; upward or not.
        self.check((2, 4, 4), (6, 4, 4), ARROW, 0)
        self.check((2, 4, 1), (6, 4, 7), ARROW, 0)
        self.check((3, 4, 4), (5, 4, 4), ARROW, 0)
        self.check((2, 3, 4), (4, 1, 4), CUP, 0)
        self.check((1, 4, 2), (4, 1, 5), CUP, 0)
        self.check((1, 3, 4), (5, 1, 4), CUP, 0)
        self.check((8, 3, 1), (4, 1, 2), CUP, 0)
        self.check((5, 6, 4), (7, 2, 4), scaled(CUP, 2), 0)
        turned = [(8 - y, x) for x, y in ARROW]
        self.check((4, 2, 4), (4, 6, 4), turned, 0)
        self.check((1, 3, 3), (3, 1, 4), WIDE_COMB, 0)
        self.check((61, 1, 4), (59, 3, 4), WIDE_STAIRCASE, 0)

    def test_touches_several_corners_alone(self):
        self.check((1, 3, 4), (11, 3, 4), CROWN, 0)
        self.check((2, 3, 4), (10, 3, 4), CROWN, 0)
        self.check((4, 3, 4), (8, 3, 4), CROWN, 1)
        self.check((61, 1, 4), (1, 61, 4), WIDE_STAIRCASE, 0)
        self.check((60, 1, 4), (1, 60, 4), WIDE_STAIRCASE, 1)

    def test_runs_along_a_line_for_a_stretch(self):
        self.check((1, 2, 4), (8, 2, 4), CUP, 0)
        self.check((2, 2, 1), (7, 2, 7), CUP, 0)
        turned = [(5 - y, x) for x, y in CUP]
        self.check((3, 1, 4), (3, 8, 4), turned, 0)
        slanted = turned_by_an_eighth(CUP, 5)
        (x, y), (u, v) = turned_by_an_eighth([(1, 2), (8, 2)], 5)
        self.check((x, y, 4), (u, v, 4), slanted, 0)
        self.check((2, 2, 4), (60, 2, 4), WIDE_COMB[:2] + [(62, 20), (60, 20), (60, 2), (2, 2), (2, 20), (0, 20)], 0)

    def test_comes_close_to_a_corner(self):
        wide = scaled(CUP, 100)
        # Past the corner (300, 200), where the notch begins.
        self.check((299, 201, 4), (301, 198, 4), wide, 1)
        self.check((299, 201, 4), (301, 199, 4), wide, 0)
        self.check((299, 202, 4), (301, 199, 4), wide, 0)
        self.check((298, 201, 4), (301, 199, 4), wide, 1)
        self.check((299, 499, 4), (301, 1, 4), wide, 0)
        self.check((1, 201, 4), (899, 198, 4), wide, 0)
        self.check((1, 201, 4), (898, 198, 4), wide, 0)
        self.check((1, 201, 4), (897, 198, 4), wide, 1)
        self.check((1, 199, 4), (899, 199, 4), wide, 1)
        self.check((1, 5, 4), (7, 5, 4), ARROW, 1)
        self.check((399, 401, 4), (402, 400, 4), scaled(ARROW, 100), 1)
        self.check((398, 401, 4), (402, 399, 4), scaled(ARROW, 100), 0)
        self.check((398, 400, 4), (401, 401, 4), scaled(ARROW, 100), 1)

    def test_comes_very_close_to_a_corner(self):
        self.check((1, 3999, 4), (3999, 1, 4), LARGE_ANGLE, 0)
        self.check((2, 3998, 4), (3999, 1, 4), LARGE_ANGLE, 0)
        self.check((1, 3999, 4), (3998, 1, 4), LARGE_ANGLE, 1)
        self.check((1, 3998, 4), (3999, 1, 4), LARGE_ANGLE, 1)
        self.check((1, 3999, 4), (4000, 1, 4), LARGE_ANGLE, 0)
        self.check((1, 4000, 4), (3999, 1, 4), LARGE_ANGLE, 0)
        self.check((1, 2000, 4), (4094, 1999, 4), LARGE_ANGLE, 1)
        self.check((1, 2001, 4), (4094, 1999, 4), LARGE_ANGLE, 0)
        self.check((1, 2001, 4), (3999, 1999, 4), LARGE_ANGLE, 0)
        self.check((1, 2001, 4), (3998, 1999, 4), LARGE_ANGLE, 1)


class LargeNumbers(unittest.TestCase):
    def test_any_of_the_six(self):
        for corners in (BOX, DIAMOND, CUP):
            room = room_of(corners, h=8)
            for numbers in itertools.product((LOWEST, HIGHEST, 1, 3), repeat=6):
                if LOWEST in numbers or HIGHEST in numbers:
                    self.assertEqual(clear(*numbers, room), [0])

    def test_beside_points_inside(self):
        for corners, pairs in IN_SIGHT:
            room = room_of(corners, h=8)
            for p, q in pairs[:2]:
                for at, number in itertools.product(range(6), (LOWEST, HIGHEST)):
                    numbers = [*p, *q]
                    numbers[at] = number
                    self.assertEqual(clear(*numbers, room), [0])


class Faults(unittest.TestCase):
    def test_each_rule(self):
        pairs = [((1, 1, 1), (2, 2, 2)), ((1, 1, 1), (1, 1, 1)), ((-1, 0, 9), (0, 0, 0)),
                 ((LOWEST, LOWEST, LOWEST), (HIGHEST, HIGHEST, HIGHEST))]
        for room, rule, wall in FAULTS:
            for p, q in pairs:
                with self.subTest(room=room, p=p):
                    self.assertEqual(clear(*p, *q, room), [-5, rule, wall])
                    self.assertEqual(judge(room), [-5, rule, wall])

    def test_large_numbers_in_every_place(self):
        for at, number in itertools.product(range(len(room_of(OCTAGON))), (LOWEST, HIGHEST)):
            room = room_of(OCTAGON)
            room[at] = number
            self.assertEqual(clear(1, 1, 1, 2, 2, 2, room), judge(room))
            self.assertEqual(judge(room)[0], -5)


class EachCallByItself(unittest.TestCase):
    PAIRS = [((1, 1, 1), (2, 1, 2)), ((1, 1, 1), (8, 4, 1)), ((0, 0, 0), (-1, 5, 2)), ((LOWEST, 0, HIGHEST), (1, 1, 1))]

    def rooms(self):
        return [room_of(corners) for corners, pairs in IN_SIGHT] + [room for room, rule, wall in FAULTS]

    def test_nothing_is_changed_or_kept(self):
        for room in self.rooms():
            for p, q in self.PAIRS:
                check_keeps_nothing(self, lambda handed: clear(*p, *q, handed), room)

    def test_plain_answers(self):
        for room in self.rooms():
            for p, q in self.PAIRS:
                check_plain_answer(self, clear(*p, *q, room))


# What follows compares with a second way, which goes through all the pieces of the plan that a way comes through.


def cuts(start, end):
    """How far along the way (0 to 1) the number that goes from start to end is whole, the way's ends left out."""
    return [Fraction(whole - start, end - start) for whole in range(min(start, end) + 1, max(start, end))]


@functools.lru_cache(maxsize=None)
def pieces_from_the_origin(u, v):
    """All pieces that the points strictly between the origin and (u, v) lie in."""
    stops = sorted({Fraction(0), Fraction(1), *cuts(0, u), *cuts(0, v), *cuts(0, u + v), *cuts(0, u - v)})
    between = [(one + other) / 2 for one, other in zip(stops, stops[1:])]
    return {piece_of(u * part, v * part) for part in stops[1:-1] + between}


def expected_in_plan(inside, p, q):
    """1 if the way from p to q is clear in plan, else 0."""
    shift = (FINE * p[0], FINE * p[1])
    if shift not in inside or (FINE * q[0], FINE * q[1]) not in inside:
        return 0
    pieces = pieces_from_the_origin(q[0] - p[0], q[1] - p[1])
    return int(all((x + shift[0], y + shift[1]) in inside for x, y in pieces))


def points_inward(corners):
    """Whether at some corner it goes to the right: in all other rooms all points inside see each other."""
    for (x, y), (u, v), (a, b) in zip(corners, started_at(corners, 1), started_at(corners, 2)):
        if (u - x) * (b - v) < (v - y) * (a - u):
            return True
    return False


class SecondWay(unittest.TestCase):
    def compare(self, corners, side, points):
        """How often the way was not clear, how often it was, of all pairs of the points."""
        inside = points_kept_dry(corners, side)
        room = room_of(corners, h=8)
        told = [0, 0]
        for p, q in itertools.combinations_with_replacement(points, 2):
            expected = expected_in_plan(inside, p, q)
            told[expected] += 1
            self.assertEqual(clear(*p, 1, *q, 5, room), [expected], (corners, p, q))
            self.assertEqual(clear(*q, 5, *p, 1, room), [expected], (corners, p, q))
        return told

    def compare_inside(self, corners, side):
        inside = points_kept_dry(corners, side)
        whole = [(x // FINE, y // FINE) for x, y in sorted(inside) if x % FINE == 0 and y % FINE == 0]
        return self.compare(corners, side, whole)

    def compare_all(self, side, n, unit):
        rooms = [corners for corners in small_rooms(side, n) if points_inward(corners)]
        told = [self.compare_inside(scaled(corners, unit), side * unit) for corners in rooms]
        self.assertGreater(sum(blocked for blocked, seen in told), 0)
        self.assertGreater(sum(seen for blocked, seen in told), 50)

    def test_all_rooms_of_four_corners(self):
        self.compare_all(4, 4, 3)

    def test_all_rooms_of_five_corners(self):
        self.compare_all(2, 5, 4)
        self.compare_all(4, 5, 1)

    def test_all_rooms_of_six_corners(self):
        self.compare_all(2, 6, 3)

    def test_all_rooms_of_seven_corners(self):
        self.compare_all(2, 7, 4)

    def test_all_points_in_and_around_small_rooms(self):
        points = list(itertools.product(range(-1, 5), repeat=2))
        for corners in small_rooms(3, 3) + small_rooms(2, 4):
            self.compare(corners, 3, points)

    def test_all_points_in_and_around_known_rooms(self):
        for corners, side in ((TRIANGLE, 4), (BOX, 6), (DIAMOND, 6), (OCTAGON, 3), (CUP, 9), (ARROW, 8)):
            points = list(itertools.product(range(-1, side + 2), repeat=2))
            self.assertGreater(self.compare(corners, side, points)[1], 0)

    def test_known_rooms_all_ways_round(self):
        for corners in (WIDE_OCTAGON, CUP, ARROW, CROWN, SPIRAL):
            for turned in all_ways_round(corners, 12):
                self.compare_inside(turned, 12)

    def test_64_corners(self):
        for corners in (WIDE_COMB, WIDE_STAIRCASE):
            points = [(x, y) for x in range(1, 62, 20) for y in (1, 2, 7, 19)]
            blocked, seen = self.compare(corners, 62, points)
            self.assertGreater(min(blocked, seen), 20)

    def test_heights(self):
        inside = points_kept_dry(ARROW, 8)
        room = room_of(ARROW, h=3)
        for p, q in itertools.product([(1, 5), (7, 5), (1, 2), (7, 2), (4, 5), (4, 4), (4, 3), (0, 4)], repeat=2):
            for z, w in itertools.product(range(-1, 5), repeat=2):
                expected = expected_in_plan(inside, p, q) if 0 < min(z, w) and max(z, w) < 3 else 0
                self.assertEqual(clear(*p, z, *q, w, room), [expected], (p, z, q, w))


if __name__ == "__main__":
    unittest.main()
