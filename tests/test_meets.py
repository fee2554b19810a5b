import functools
import itertools
import math
import unittest
from fractions import Fraction

from roomacoustics.rooms import clear, judge, meets, where
from samples import (
    ARROW, BOX, CROWN, CUP, DIAMOND, FAULTS, FINE, HIGHEST, LARGEST_BOX, LARGE_ANGLE, LOWEST, OCTAGON, SPIRAL, TRIANGLE,
    WIDE_COMB, WIDE_OCTAGON, WIDE_STAIRCASE, all_ways_round, check_keeps_nothing, check_plain_answer, piece_of,
    points_kept_dry, room_of, scaled, small_rooms, started_at, turned_by_an_eighth,
)

# Of each room, 8 high, and a point in it: how many steps of x, y and z a ray takes, and where it ends: the wall and the
# place.
BY_HAND = [
    # Side walls at y = 0, x = 6, y = 4, x = 0; the floor is wall 4, the ceiling wall 5.
    (BOX, (2, 1, 3), [
        # Along x, along y, along z.
        ((1, 0, 0), (1, 6, 1, 3, 1)), ((-1, 0, 0), (3, 0, 1, 3, 1)),
        ((0, 1, 0), (2, 2, 4, 3, 1)), ((0, -1, 0), (0, 2, 0, 3, 1)),
        ((0, 0, 1), (5, 2, 1, 8, 1)), ((0, 0, -1), (4, 2, 1, 0, 1)),
        # Slanted in plan, slanted upward.
        ((1, 1, 0), (2, 5, 4, 3, 1)), ((-1, -1, 0), (0, 1, 0, 3, 1)),
        ((1, -1, 0), (0, 3, 0, 3, 1)), ((-1, 1, 0), (3, 0, 3, 3, 1)),
        ((1, 0, 1), (1, 6, 1, 7, 1)), ((-1, 0, -1), (3, 0, 1, 1, 1)),
        ((0, 1, 1), (2, 2, 4, 6, 1)), ((0, -1, -1), (0, 2, 0, 2, 1)),
        # In none of the eight directions.
        ((0, 1, 2), (5, 4, 7, 16, 2)), ((0, -1, -2), (0, 2, 0, 1, 1)),
        ((3, 1, 1), (1, 18, 7, 13, 3)), ((-3, -1, -1), (3, 0, 1, 7, 3)),
        ((1, 2, -3), (4, 3, 3, 0, 1)), ((-1, -2, 3), (0, 3, 0, 9, 2)),
        ((1, 2, 0), (2, 7, 8, 6, 2)), ((-1, -2, 0), (0, 3, 0, 6, 2)),
        ((1, 1, 7), (5, 19, 12, 56, 7)), ((1, 1, -7), (4, 17, 10, 0, 7)),
    ]),
    # y = x - 3, y = 9 - x, y = x + 3, y = 3 - x.
    (DIAMOND, (2, 3, 4), [
        ((1, 0, 0), None), ((-1, 0, 0), None),
        ((0, 1, 0), (2, 2, 5, 4, 1)), ((0, -1, 0), (3, 2, 1, 4, 1)),
        ((1, 1, 0), (1, 4, 5, 4, 1)), ((-1, -1, 0), (3, 1, 2, 4, 1)),
        ((1, -1, 0), (0, 4, 1, 4, 1)), ((-1, 1, 0), (2, 1, 4, 4, 1)),
        ((0, 0, 3), (5, 2, 3, 8, 1)), ((0, 0, -3), (4, 2, 3, 0, 1)),
    ]),
    (DIAMOND, (3, 3, 4), [
        ((2, 1, 1), (1, 5, 4, 5, 1)), ((-2, -1, -1), (3, 1, 2, 3, 1)),
        ((3, 1, 0), (1, 21, 15, 16, 4)), ((-3, -1, 0), (3, 3, 9, 16, 4)),
        ((3, -1, 2), (0, 21, 9, 22, 4)), ((-3, 1, -2), (2, 3, 15, 10, 4)),
        ((1, 0, 10), (5, 17, 15, 40, 5)), ((-1, 0, -10), (4, 13, 15, 0, 5)),
        ((1, 0, 0), None), ((0, 1, 0), None), ((-1, 0, 0), None), ((0, -1, 0), None),
    ]),
    # y = 0, y = x - 6, x = 9, y = 15 - x, y = 9, y = x + 6, x = 0, y = 3 - x.
    (WIDE_OCTAGON, (4, 4, 4), [
        ((1, 0, 0), (2, 9, 4, 4, 1)), ((-1, 0, 0), (6, 0, 4, 4, 1)),
        ((0, 1, 0), (4, 4, 9, 4, 1)), ((0, -1, 0), (0, 4, 0, 4, 1)),
        ((1, 1, 0), (3, 15, 15, 8, 2)), ((-1, -1, 0), (7, 3, 3, 8, 2)),
        ((1, -1, 0), (1, 7, 1, 4, 1)), ((-1, 1, 0), (5, 1, 7, 4, 1)),
        ((0, 0, 1), (9, 4, 4, 8, 1)), ((0, 0, -1), (8, 4, 4, 0, 1)),
        ((3, 1, 0), (2, 27, 17, 12, 3)), ((-3, -1, 0), (7, 1, 11, 16, 4)),
        ((1, 2, 7), (9, 32, 36, 56, 7)), ((-1, -2, -7), (8, 24, 20, 0, 7)),
        ((5, 2, 4), None), ((5, -1, 0), None),
    ]),
    # Its arms are at x = 0 to 3 and 6 to 9; walls 3, 4 and 5 stand round the notch.
    (CUP, (1, 1, 4), [
        ((1, 0, 0), (1, 9, 1, 4, 1)), ((-1, 0, 0), (7, 0, 1, 4, 1)),
        ((0, 1, 0), (6, 1, 5, 4, 1)), ((0, -1, 0), (0, 1, 0, 4, 1)),
        ((3, 1, 1), (4, 4, 2, 5, 1)), ((-3, -1, -1), (7, 0, 2, 11, 3)),
        ((2, 1, 0), None), ((5, 1, 0), None), ((7, 1, 0), (1, 63, 15, 28, 7)),
        ((1, 3, 0), (6, 7, 15, 12, 3)), ((4, 1, 5), (9, 21, 9, 40, 5)),
    ]),
    (CUP, (2, 4, 4), [
        ((1, 0, 0), (5, 3, 4, 4, 1)), ((1, -1, 0), (5, 3, 3, 4, 1)), ((1, 1, 0), None), ((1, -2, 0), None),
        ((1, -3, 0), (0, 10, 0, 12, 3)), ((2, -5, 1), (0, 18, 0, 24, 5)), ((3, -4, 0), (5, 9, 8, 12, 3)),
    ]),
    (CUP, (8, 4, 4), [
        ((-1, 0, 0), (3, 6, 4, 4, 1)), ((0, 1, 0), (2, 8, 5, 4, 1)), ((-7, 0, 1), (3, 42, 28, 30, 7)),
    ]),
    # Its corner at (4, 4) points upward into the room, between walls 0 and 1.
    (ARROW, (1, 2, 4), [
        ((1, 0, 0), (0, 2, 2, 4, 1)), ((0, -1, 0), (0, 1, 1, 4, 1)), ((1, 1, 0), (3, 7, 8, 4, 1)),
        ((4, 3, 0), (2, 32, 29, 16, 4)), ((4, 2, 1), (0, 6, 6, 9, 2)), ((3, 2, 0), None),
        ((-1, -1, 0), (4, 0, 1, 4, 1)),
    ]),
    (ARROW, (7, 2, 4), [
        ((-1, 0, 0), (1, 6, 2, 4, 1)), ((0, -1, 0), (1, 7, 1, 4, 1)), ((-1, 1, 0), (3, 1, 8, 4, 1)),
        ((-5, 1, -1), (1, 23, 9, 15, 4)), ((-3, 2, 0), None), ((1, 0, 0), (2, 8, 2, 4, 1)),
    ]),
    # Its teeth stand at x = 0 to 2, 4 to 6 and so on up to 60 to 62, with walls 1 to 63 round them.
    (WIDE_COMB, (1, 1, 4), [
        ((1, 0, 0), (1, 62, 1, 4, 1)), ((-1, 0, 0), (63, 0, 1, 4, 1)), ((0, 1, 0), (62, 1, 20, 4, 1)),
        ((0, 0, -1), (64, 1, 1, 0, 1)), ((0, 0, 1), (65, 1, 1, 8, 1)), ((60, 0, 1), (1, 3720, 60, 301, 60)),
    ]),
    (WIDE_COMB, (33, 1, 4), [
        ((1, 1, 0), None), ((2, 1, 0), (28, 35, 2, 4, 1)), ((3, 1, 0), None), ((4, 1, 0), (25, 152, 9, 16, 4)),
        ((-1, 1, 0), None), ((-4, 1, 0), (35, 112, 9, 16, 4)), ((0, -1, 0), (0, 33, 0, 4, 1)),
    ]),
    (WIDE_COMB, (33, 10, 4), [
        ((1, 0, 0), (29, 34, 10, 4, 1)), ((-1, 0, 0), (31, 32, 10, 4, 1)), ((0, 1, 0), (30, 33, 20, 4, 1)),
        ((0, -1, 0), (0, 33, 0, 4, 1)), ((1, -7, 0), (29, 34, 3, 4, 1)), ((1, -8, 0), None),
        ((1, -9, 0), (0, 307, 0, 36, 9)), ((1, -10, 0), (0, 34, 0, 4, 1)),
    ]),
    # Its corners stand at (62, 2), (60, 2), (60, 4) and so on up to (2, 62), (0, 62).
    (WIDE_STAIRCASE, (1, 1, 4), [
        ((1, 0, 0), (1, 62, 1, 4, 1)), ((0, 1, 0), (62, 1, 62, 4, 1)), ((1, 1, 0), None),
        ((-1, 0, 0), (63, 0, 1, 4, 1)), ((30, 31, 0), (32, 31, 32, 4, 1)), ((31, 30, 0), (31, 32, 31, 4, 1)),
        ((29, 31, 0), None), ((28, 31, 0), (33, 840, 927, 112, 28)), ((0, 0, 1), (65, 1, 1, 8, 1)),
    ]),
]


def steps(p, way, times=1):
    """The point so many times the way's steps from p."""
    return tuple(number + times * step for number, step in zip(p, way))


def ray(p, q, corners, h=8):
    return meets(*p, *q, room_of(corners, h=h))


def as_told(wall, place):
    """The answer of a place (of fractions) in a wall."""
    over = math.lcm(*[Fraction(number).denominator for number in place])
    return [0, wall, *[int(number * over) for number in place], over]


def how_far(p, q, answer):
    """How much of the way from p to q it is to the place that was told; None if it is on no ray from p through q."""
    place = [Fraction(number, answer[5]) for number in answer[2:5]]
    parts = {(there - start) / (end - start) for start, end, there in zip(p, q, place) if start != end}
    stays = all(start == there for start, end, there in zip(p, q, place) if start == end)
    return parts.pop() if stays and len(parts) == 1 else None


class Case(unittest.TestCase):
    def check(self, p, q, corners, expected, h=8):
        """expected: wall and place of four numbers, None if it ends in no open wall."""
        with self.subTest(p=p, q=q, corners=corners):
            self.assertEqual(ray(p, q, corners, h), [-4] if expected is None else [0, *expected])


class ByHand(Case):
    def test_places(self):
        for corners, p, entries in BY_HAND:
            for way, expected in entries:
                self.check(p, steps(p, way), corners, expected)

    def test_as_many_as_64_corners(self):
        self.assertEqual({len(corners) for corners, p, entries in BY_HAND}, {4, 5, 8, 64})

    def test_whichever_corner_is_first(self):
        for corners, p, entries in BY_HAND:
            n = len(corners)
            for first in range(0, n, 1 if n < 64 else 9):
                for way, expected in entries:
                    if expected is not None and expected[0] < n:
                        expected = ((expected[0] - first) % n, *expected[1:])
                    self.check(p, steps(p, way), started_at(corners, first), expected)

    def test_turned_by_an_eighth(self):
        for corners, p, entries in BY_HAND:
            for way, expected in entries:
                q = steps(p, way)
                (x, y), (u, v) = turned_by_an_eighth([p[:2], q[:2]], 62)
                if expected is not None:
                    a, b, c = [Fraction(number, expected[4]) for number in expected[1:4]]
                    expected = as_told(expected[0], (*turned_by_an_eighth([(a, b)], 62)[0], c))[1:]
                self.check((x, y, p[2]), (u, v, q[2]), turned_by_an_eighth(corners, 62), expected)

    def test_upside_down(self):
        for corners, p, entries in BY_HAND:
            n = len(corners)
            for way, expected in entries:
                if expected is not None:
                    wall, a, b, c, d = expected
                    expected = ({n: n + 1, n + 1: n}.get(wall, wall), a, b, 8 * d - c, d)
                p_over = (p[0], p[1], 8 - p[2])
                self.check(p_over, steps(p_over, (way[0], way[1], -way[2])), corners, expected)

    def test_so_many_times_larger(self):
        for corners, p, entries in BY_HAND:
            for times in (2, 3, 60):
                for way, expected in entries:
                    if expected is not None:
                        expected = as_told(expected[0], [Fraction(n * times, expected[4]) for n in expected[1:4]])[1:]
                    larger = tuple(number * times for number in p)
                    self.check(larger, steps(larger, way), scaled(corners, times), expected, 8 * times)

    def test_stuffs_do_not_count(self):
        for stuff in range(8):
            room = room_of(CUP, h=8, floor=stuff, ceiling=7 - stuff, stuff=stuff)
            self.assertEqual(meets(1, 1, 4, 4, 2, 5, room), [0, 4, 4, 2, 5, 1])
            self.assertEqual(meets(1, 1, 4, 3, 2, 4, room), [-4])
            self.assertEqual(meets(1, 0, 4, 3, 2, 4, room), [-3])

    def test_in_the_largest_room(self):
        place = (4095 * 4093, 4093 + 4094 * 4092, 4093 + 4094 * 4091, 4093)
        self.check((1, 1, 1), (4094, 4093, 4092), LARGEST_BOX, (1, *place), 4095)
        self.check((4094, 4094, 4094), (4093, 4094, 4094), LARGEST_BOX, (3, 0, 4094, 4094, 1), 4095)
        self.check((4094, 1, 4094), (1, 1, 1), LARGEST_BOX, None, 4095)
        self.check((4094, 1, 4094), (1, 1, 2), LARGEST_BOX, (3, 0, 4093, 4093 * 4094 - 4094 * 4092, 4093), 4095)


class HowFarQIs(Case):
    """Wherever on the ray q is, the ray ends in one and the same place."""

    def test_short_of_the_wall_on_it_behind_it_and_far_outside(self):
        for times, place in ((1, "short"), (4, "on"), (5, "behind"), (1000, "outside"), (2 ** 250, "far outside")):
            with self.subTest(place):
                self.check((2, 1, 3), (2 + times, 1, 3), BOX, (1, 6, 1, 3, 1))
        for times in (1, 2, 3, 4, 7, 4095, 2 ** 64, 2 ** 255 - 9):
            self.check((2, 3, 4), (2, 3 + times, 4), DIAMOND, (2, 2, 5, 4, 1))
            self.check((2, 3, 4), (2, 3, 4 + times), DIAMOND, (5, 2, 3, 8, 1))
            self.check((2, 3, 4), (2, 3, 4 - times), DIAMOND, (4, 2, 3, 0, 1))

    def test_all_by_hand(self):
        for corners, p, entries in BY_HAND:
            for way, expected in entries:
                for times in (2, 3, 100) if len(corners) < 64 else (7,):
                    self.check(p, steps(p, way, times), corners, expected)

    def test_far_outside(self):
        for corners, p, entries in BY_HAND:
            for way, expected in entries:
                # As far as the numbers go.
                self.check(p, steps(p, way, (2 ** 256 - 70) // max(abs(step) for step in way)), corners, expected)

    def test_in_another_part_of_the_room(self):
        # A wall or two between: the nearest one is told.
        self.check((1, 4, 4), (8, 4, 4), CUP, (5, 3, 4, 4, 1))
        self.check((8, 4, 4), (1, 4, 4), CUP, (3, 6, 4, 4, 1))
        self.check((5, 5, 4), (9, 5, 4), SPIRAL, (5, 6, 5, 4, 1))
        self.check((9, 5, 4), (3, 5, 4), SPIRAL, (9, 8, 5, 4, 1))
        self.check((1, 1, 4), (1, 11, 4), SPIRAL, (10, 1, 2, 4, 1))
        self.check((1, 10, 4), (61, 10, 4), WIDE_COMB, (61, 2, 10, 4, 1))
        self.check((61, 10, 4), (1, 10, 4), WIDE_COMB, (3, 60, 10, 4, 1))
        self.check((5, 10, 4), (1, 10, 4), WIDE_COMB, (59, 4, 10, 4, 1))

    def test_outside_with_a_wall_between(self):
        self.check((1, 4, 4), (4, 4, 4), CUP, (5, 3, 4, 4, 1))
        self.check((1, 4, 4), (20, 4, 4), CUP, (5, 3, 4, 4, 1))
        self.check((1, 4, 4), (5, 3, 4), CUP, (5, 6, 7, 8, 2))
        self.check((4, 1, 4), (4, 9, 4), CUP, (4, 4, 2, 4, 1))
        self.check((2, 2, 4), (2, 2, 100), BOX, (5, 2, 2, 8, 1))
        self.check((2, 2, 4), (3, 2, -100), BOX, (4, 53, 52, 0, 26))
        self.check((2, 6, 4), (2, -6, 4), ARROW, (0, 2, 2, 4, 1))

    def test_on_the_wall_itself(self):
        for corners, p, entries in BY_HAND:
            for way, expected in entries:
                if expected is not None and expected[4] == 1:
                    self.check(p, expected[1:4], corners, expected)


class LargeNumbers(Case):
    def test_along_x_y_and_z(self):
        self.check((2, 1, 3), (HIGHEST, 1, 3), BOX, (1, 6, 1, 3, 1))
        self.check((2, 1, 3), (LOWEST, 1, 3), BOX, (3, 0, 1, 3, 1))
        self.check((2, 1, 3), (2, HIGHEST, 3), BOX, (2, 2, 4, 3, 1))
        self.check((2, 1, 3), (2, LOWEST, 3), BOX, (0, 2, 0, 3, 1))
        self.check((2, 1, 3), (2, 1, HIGHEST), BOX, (5, 2, 1, 8, 1))
        self.check((2, 1, 3), (2, 1, LOWEST), BOX, (4, 2, 1, 0, 1))

    def test_all_but_along_x(self):
        far = HIGHEST - 2
        self.check((2, 1, 3), (HIGHEST, 2, 3), BOX, (1, 6 * far, far + 4, 3 * far, far))
        self.check((2, 1, 3), (HIGHEST, 2, 2), BOX, (1, 6 * far, far + 4, 3 * far - 4, far))
        # 2 and as much as it goes down: 2 ** 256 + 2, and 2 divides them both.
        half = 2 ** 255 + 1
        self.check((2, 1, 3), (LOWEST, 2, 3), BOX, (3, 0, half + 1, 3 * half, half))

    def test_slanted(self):
        self.check((3, 3, 4), (HIGHEST, HIGHEST, 4), DIAMOND, (1, 9, 9, 8, 2))
        self.check((3, 3, 4), (LOWEST, LOWEST, 4), DIAMOND, (3, 3, 3, 8, 2))
        self.check((1, 1, 1), (HIGHEST, HIGHEST, HIGHEST), LARGEST_BOX, None, 4095)
        self.check((1, 1, 1), (HIGHEST, HIGHEST, HIGHEST), LARGEST_BOX, (5, 4094, 4094, 4094, 1), 4094)
        self.check((1, 1, 1), (LOWEST, LOWEST, LOWEST), LARGEST_BOX, None, 4095)

    def test_in_each_of_the_numbers(self):
        for corners, side in ((BOX, 6), (DIAMOND, 6), (WIDE_OCTAGON, 9), (CUP, 9), (ARROW, 8)):
            inside = points_kept_dry(corners, side)
            for q in itertools.product((LOWEST, HIGHEST, 1, 4), repeat=3):
                if LOWEST in q or HIGHEST in q:
                    for p in ((3, 1, 4), (5, 3, 1), (7, 2, 4), (2, 5, 7)):
                        self.assertEqual(ray(p, q, corners), reckoned(corners, 8, side, inside, p, q), (corners, p, q))

    def test_p(self):
        for corners in (BOX, DIAMOND, CUP):
            for p in itertools.product((LOWEST, HIGHEST, 1), repeat=3):
                if p != (1, 1, 1):
                    self.assertEqual(ray(p, (1, 1, 1), corners), [-3])
                    self.assertEqual(ray(p, p, corners), [-3])


class WithoutCommonDivisor(Case):
    def test_one_number_is_0(self):
        self.check((2, 1, 3), (-1, 0, 2), BOX, (3, 0, 1, 7, 3))
        self.check((2, 2, 2), (-2, 1, 1), BOX, (3, 0, 3, 3, 2))
        self.check((2, 2, 4), (3, 0, 5), BOX, (0, 3, 0, 5, 1))
        self.check((2, 2, 4), (3, -1, 5), BOX, (0, 8, 0, 14, 3))
        self.check((4, 2, 2), (5, 3, 0), BOX, (4, 5, 3, 0, 1))
        self.check((4, 2, 2), (6, 4, -4), BOX, (4, 14, 8, 0, 3))

    def test_all_three_are_0(self):
        # There is no such place in an open wall: at 0, 0 there is nothing but a corner.
        self.check((1, 1, 1), (0, 0, 0), BOX, None)
        self.check((2, 2, 2), (1, 1, 1), BOX, None)
        self.check((2, 1, 3), (0, 0, 0), BOX, None)
        self.check((1, 1, 1), (0, 0, 0), TRIANGLE, None)

    def test_two_are_0(self):
        self.check((1, 1, 1), (0, 0, 1), BOX, None)
        self.check((1, 1, 1), (0, 1, 0), BOX, None)
        self.check((1, 1, 1), (1, 0, 0), BOX, None)

    def test_three_of_them_have_one(self):
        self.check((1, 2, 3), (26, 4, 6), BOX, (1, 30, 12, 18, 5))
        self.check((1, 2, 4), (4, 3, 4), BOX, (1, 18, 11, 12, 3))
        # The first, the second, the third has none.
        self.check((1, 2, 4), (5, 2, 4), BOX, (1, 6, 2, 4, 1))
        self.check((3, 3, 4), (6, 4, 4), DIAMOND, (1, 21, 15, 16, 4))
        self.check((3, 3, 4), (4, 6, 4), DIAMOND, (1, 15, 21, 16, 4))
        self.check((3, 3, 4), (6, 6, 5), DIAMOND, (1, 9, 9, 9, 2))

    def test_lines_of_any_length(self):
        # The longer a line, the larger are the numbers that are reckoned with on the way.
        for length in (5, 30, 64, 1000, 4095):
            box = [(0, 0), (length, 0), (length, length), (0, length)]
            self.check((1, 1, 1), (2, 0, 1), box, (0, 2, 0, 1, 1))
            self.check((1, 1, 1), (0, 2, 1), box, (3, 0, 2, 1, 1))
            self.check((2, 1, 2), (0, 2, 1), box, (3, 0, 2, 1, 1))
            self.check((3, 1, 2), (1, 2, 2), box, (3, 0, 5, 4, 2))
            self.check((1, 3, 2), (2, 1, 3), box, (0, 5, 0, 7, 2))

    def test_everywhere(self):
        for corners, side in ((BOX, 6), (WIDE_OCTAGON, 9), (CUP, 9)):
            room = room_of(corners, h=4)
            overs = set()
            for p in ((4, 1, 1), (4, 1, 3), (2, 3, 2)):
                for q in itertools.product(range(-2, side + 3), range(-2, side + 3), range(-2, 7)):
                    answer = meets(*p, *q, room)
                    if answer[0] == 0:
                        self.assertEqual(math.gcd(*answer[2:]), 1)
                        self.assertGreaterEqual(answer[5], 1)
                        self.assertGreater(how_far(p, q, answer), 0)
                        overs.add(answer[5])
            self.assertLessEqual({1, 2, 3, 4, 5, 7}, overs)


class NoRay(unittest.TestCase):
    """[-3]: p isn't inside, or q is p."""

    NOT_INSIDE = {
        "outside": [(-1, 2, 4), (7, 2, 4), (3, -1, 4), (3, 5, 4), (3, 2, -1), (3, 2, 9), (7, 5, 9), (-1, -1, -1)],
        "on a wall": [(0, 2, 4), (6, 1, 4), (3, 0, 1), (5, 4, 7)],
        "on the floor": [(3, 2, 0), (1, 1, 0), (5, 3, 0)],
        "on the ceiling": [(3, 2, 8), (1, 1, 8), (5, 3, 8)],
        "at an edge": [(0, 0, 4), (6, 4, 1), (3, 0, 0), (0, 2, 8), (6, 1, 0), (3, 4, 8)],
        "at a corner": [(0, 0, 0), (6, 0, 0), (6, 4, 8), (0, 4, 8)],
    }

    def test_p_is_not_inside(self):
        for kind, points in self.NOT_INSIDE.items():
            for p in points:
                for q in ((3, 2, 4), (1, 1, 1), (0, 0, 0), (50, 60, 70), (-1, -1, -1), (6, 2, 4), p):
                    with self.subTest(kind, p=p, q=q):
                        self.assertEqual(ray(p, q, BOX), [-3])

    def test_q_is_p(self):
        for corners in (BOX, CUP, ARROW, WIDE_OCTAGON):
            for p in itertools.product(range(-1, 10, 2), range(-1, 10, 2), (-1, 0, 1, 4, 8, 9)):
                self.assertEqual(ray(p, p, corners), [-3])
        for p in itertools.product((LOWEST, HIGHEST), repeat=3):
            self.assertEqual(ray(p, p, BOX), [-3])

    def test_q_is_p_but_for_one_number(self):
        for p in ((2, 1, 3), (5, 3, 7)):
            for at, more in itertools.product(range(3), (-1, 1)):
                q = list(p)
                q[at] += more
                self.assertEqual(ray(p, q, BOX)[0], 0)

    def test_in_the_notch_and_around(self):
        for p in ((4, 3, 4), (5, 4, 4), (4, 5, 4), (3, 3, 4), (3, 2, 4), (5, 2, 4), (6, 5, 4)):
            for q in ((1, 1, 4), (4, 1, 4), (8, 4, 4)):
                self.assertEqual(ray(p, q, CUP), [-3])
        for p in ((4, 4, 4), (4, 3, 4), (2, 2, 4), (0, 0, 4)):
            self.assertEqual(ray(p, (4, 6, 4), ARROW), [-3])

    def test_the_lowest_room(self):
        # No whole point is inside.
        for p in itertools.product(range(-1, 8), range(-1, 6), (-1, 0, 1, 2)):
            self.assertEqual(ray(p, (3, 2, 5), BOX, h=1), [-3])

    def test_clear_is_not_asked(self):
        # As far as p is inside, q may be anywhere.
        self.assertEqual(ray((2, 1, 3), (0, 1, 3), BOX), [0, 3, 0, 1, 3, 1])
        self.assertEqual(ray((2, 1, 3), (-2, 1, 3), BOX), [0, 3, 0, 1, 3, 1])


class NoOpenWall(Case):
    """[-4]: the ray ends at an edge or a corner."""

    def test_at_an_edge_between_two_side_walls(self):
        for x, y in BOX:
            for z in (1, 4, 7):
                self.check((3, 2, 4), (x, y, z), BOX, None)
                self.check((1, 3, z), (x, y, 4), BOX, None)
        for corners, p in ((DIAMOND, (3, 3, 4)), (WIDE_OCTAGON, (4, 5, 4)), (TRIANGLE, (1, 1, 4))):
            for x, y in corners:
                self.check(p, (x, y, 3), corners, None)
                self.check(p, (x, y, 4), corners, None)

    def test_at_an_edge_between_a_wall_and_the_floor_or_the_ceiling(self):
        for x, y in ((0, 2), (6, 1), (3, 0), (5, 4)):
            for z in (0, 8):
                self.check((3, 2, 4), (x, y, z), BOX, None)
                self.check((1, 1, 4), (x, y, z), BOX, None)
        for x, y in ((4, 1), (5, 4), (2, 5), (1, 2)):
            for z in (0, 8):
                self.check((3, 3, 4), (x, y, z), DIAMOND, None)
        self.check((4, 1, 4), (4, 2, 8), CUP, None)
        self.check((4, 1, 4), (4, 2, 0), CUP, None)

    def test_close_to_such_an_edge(self):
        box = scaled(BOX, 100)
        self.check((300, 200, 400), (0, 200, 1), box, (3, 0, 200, 1, 1), 800)
        self.check((300, 200, 400), (0, 200, 0), box, None, 800)
        self.check((300, 200, 400), (1, 200, 0), box, (4, 1, 200, 0, 1), 800)
        self.check((300, 200, 400), (1, 200, 800), box, (5, 1, 200, 800, 1), 800)
        self.check((300, 200, 400), (0, 200, 800), box, None, 800)
        self.check((300, 200, 400), (0, 200, 799), box, (3, 0, 200, 799, 1), 800)
        self.check((300, 200, 400), (0, 1, 400), box, (3, 0, 1, 400, 1), 800)
        self.check((300, 200, 400), (0, 0, 400), box, None, 800)
        self.check((300, 200, 400), (1, 0, 400), box, (0, 1, 0, 400, 1), 800)

    def test_at_a_corner_where_three_meet(self):
        for corners, p in ((BOX, (3, 2, 4)), (BOX, (1, 3, 1)), (DIAMOND, (3, 3, 4)), (WIDE_OCTAGON, (4, 5, 2))):
            for (x, y), z in itertools.product(corners, (0, 8)):
                self.check(p, (x, y, z), corners, None)
        # Corners that point into the room.
        for z in (0, 8):
            self.check((1, 1, 4), (3, 2, z), CUP, None)
            self.check((8, 4, 4), (6, 2, z), CUP, None)
            self.check((1, 6, 4), (4, 4, z), ARROW, None)

    def test_touches_a_corner_and_would_go_on_inside(self):
        # Along x, along y, slanted, in none of the eight directions; upward or not.
        for q in ((4, 4, 4), (6, 4, 4), (3, 4, 5), (6, 4, 7), (3, 4, 4)):
            self.check((2, 4, 4), q, ARROW, None)
        self.check((6, 4, 4), (5, 4, 4), ARROW, None)
        self.check((4, 2, 4), (4, 3, 4), [(8 - y, x) for x, y in ARROW], None)
        self.check((4, 6, 4), (4, 5, 4), [(8 - y, x) for x, y in ARROW], None)
        self.check((2, 3, 4), (4, 1, 4), CUP, None)
        self.check((4, 1, 4), (2, 3, 4), CUP, None)
        self.check((1, 3, 4), (5, 1, 4), CUP, None)
        self.check((5, 1, 4), (1, 3, 4), CUP, None)
        self.check((8, 3, 1), (4, 1, 2), CUP, None)
        self.check((1, 3, 4), (11, 3, 4), CROWN, None)
        self.check((1, 3, 3), (3, 1, 4), WIDE_COMB, None)
        self.check((61, 1, 4), (59, 3, 4), WIDE_STAIRCASE, None)
        self.check((1, 3999, 4), (3999, 1, 4), LARGE_ANGLE, None)
        # From between two such corners toward either.
        self.check((4, 3, 4), (8, 3, 4), CROWN, None)
        self.check((8, 3, 4), (4, 3, 4), CROWN, None)

    def test_touches_a_corner_and_would_go_on_outside(self):
        self.check((1, 1, 4), (3, 2, 4), CUP, None)
        self.check((1, 4, 4), (3, 5, 4), CUP, None)
        self.check((4, 6, 4), (4, 5, 4), ARROW, None)
        self.check((3, 6, 4), (4, 4, 4), ARROW, None)

    def test_would_run_along_a_line_from_there(self):
        self.check((1, 2, 4), (8, 2, 4), CUP, None)
        self.check((8, 2, 4), (1, 2, 4), CUP, None)
        self.check((1, 2, 4), (2, 2, 4), CUP, None)
        self.check((1, 2, 3), (3, 2, 4), CUP, None)
        self.check((3, 1, 4), (3, 2, 4), CUP, None)
        self.check((6, 1, 4), (6, 4, 4), CUP, None)
        self.check((5, 5, 4), (4, 4, 4), ARROW, None)
        self.check((7, 7, 4), (1, 1, 4), ARROW, None)
        self.check((3, 5, 4), (5, 3, 4), ARROW, None)
        self.check((2, 1, 4), (2, 2, 4), WIDE_COMB, None)
        self.check((1, 2, 4), (50, 2, 4), WIDE_COMB, None)
        self.check((60, 1, 4), (60, 2, 4), WIDE_STAIRCASE, None)
        slanted = turned_by_an_eighth(CUP, 5)
        for one, other in (((1, 2), (8, 2)), ((8, 2), (7, 2)), ((3, 1), (3, 4))):
            (x, y), (u, v) = turned_by_an_eighth([one, other], 5)
            self.check((x, y, 4), (u, v, 4), slanted, None)

    def test_runs_straight_ahead_of_a_line_without_reaching_it(self):
        # Away from the notch, whose lines are at x = 3, x = 6 and y = 2.
        self.check((3, 1, 4), (3, 0, 4), CUP, (0, 3, 0, 4, 1))
        self.check((6, 1, 4), (6, 0, 4), CUP, (0, 6, 0, 4, 1))
        self.check((2, 2, 4), (1, 2, 4), CUP, (7, 0, 2, 4, 1))
        self.check((8, 2, 4), (9, 2, 4), CUP, (1, 9, 2, 4, 1))
        # Away from (4, 4), and upward, for straight ahead there is a corner.
        self.check((5, 5, 4), (6, 6, 6), ARROW, (6, 7, 7, 8, 1))
        self.check((3, 5, 4), (2, 6, 6), ARROW, (6, 1, 7, 8, 1))
        self.check((5, 5, 4), (6, 6, 4), ARROW, None)


class CloseToACorner(Case):
    def test_past_the_notch(self):
        wide = scaled(CUP, 100)
        # The corner at (300, 200), where the notch begins.
        self.check((299, 201, 4), (301, 198, 4), wide, (0, 433, 0, 4, 1))
        self.check((299, 201, 4), (301, 199, 4), wide, None)
        self.check((299, 202, 4), (301, 199, 4), wide, (5, 600, 401, 8, 2))
        self.check((298, 201, 4), (301, 199, 4), wide, (0, 1199, 0, 8, 2))
        self.check((1, 201, 4), (897, 198, 4), wide, (1, 806400, 177399, 3584, 896))
        self.check((1, 201, 4), (898, 198, 4), wide, None)
        self.check((1, 199, 4), (899, 199, 4), wide, (1, 900, 199, 4, 1))

    def test_past_the_tip(self):
        wide = scaled(ARROW, 100)
        self.check((399, 401, 4), (402, 400, 4), wide, (2, 2400, 802, 12, 3))
        self.check((398, 400, 4), (401, 401, 4), wide, (2, 800, 534, 4, 1))
        self.check((398, 401, 4), (402, 399, 4), wide, None)
        self.check((398, 401, 4), (401, 399, 4), wide, (0, 1999, 1999, 20, 5))

    def test_very_close(self):
        self.check((1, 3999, 4), (3998, 1, 4), LARGE_ANGLE, (0, 15988001, 0, 15992, 3998))
        self.check((1, 3999, 4), (3999, 1, 4), LARGE_ANGLE, None)
        self.check((1, 2000, 4), (4094, 1999, 4), LARGE_ANGLE, (1, 16760835, 8181906, 16372, 4093))
        self.check((1, 2001, 4), (3998, 1999, 4), LARGE_ANGLE, (1, 16367715, 7989809, 15988, 3997))
        self.check((1, 2001, 4), (3999, 1999, 4), LARGE_ANGLE, None)
        self.check((1, 2001, 4), (4000, 1999, 4), LARGE_ANGLE, (3, 7998000, 7998001, 15996, 3999))


class Faults(unittest.TestCase):
    def test_each_rule(self):
        pairs = [((1, 1, 1), (2, 2, 2)), ((1, 1, 1), (1, 1, 1)), ((-1, 0, 9), (0, 0, 0)), ((3, 2, 1), (0, 0, 0)),
                 ((LOWEST, LOWEST, LOWEST), (HIGHEST, HIGHEST, HIGHEST))]
        for room, rule, wall in FAULTS:
            for p, q in pairs:
                with self.subTest(room=room, p=p):
                    self.assertEqual(meets(*p, *q, room), [-5, rule, wall])
                    self.assertEqual(judge(room), [-5, rule, wall])

    def test_large_numbers_in_every_place(self):
        for at, number in itertools.product(range(len(room_of(OCTAGON))), (LOWEST, HIGHEST)):
            room = room_of(OCTAGON)
            room[at] = number
            self.assertEqual(judge(room)[0], -5)
            self.assertEqual(meets(1, 1, 1, 2, 2, 2, room), judge(room))


class EachCallByItself(unittest.TestCase):
    PAIRS = [((1, 1, 1), (2, 1, 2)), ((1, 1, 1), (8, 4, 1)), ((1, 1, 1), (0, 0, 0)), ((0, 0, 0), (-1, 5, 2)),
             ((1, 1, 1), (1, LOWEST, HIGHEST)), ((LOWEST, 0, HIGHEST), (1, 1, 1))]

    def rooms(self):
        return [room_of(corners) for corners, p, entries in BY_HAND] + [room for room, rule, wall in FAULTS]

    def test_nothing_is_changed_or_kept(self):
        for room in self.rooms():
            for p, q in self.PAIRS:
                check_keeps_nothing(self, lambda handed: meets(*p, *q, handed), room)

    def test_plain_answers(self):
        for room in self.rooms():
            for p, q in self.PAIRS:
                check_plain_answer(self, meets(*p, *q, room))


# What follows compares with a second way, in fractions: it goes through all the pieces of the plan that the ray comes
# through, one by one, until one of them isn't inside.


@functools.lru_cache(maxsize=None)
def pieces_ahead(u, v, reach):
    """All crossings of the ray from the origin through (u, v) with the lines that cut the plan, in order.

    Of each: how far it is (1 at u, v), the piece that the ray comes through just ahead of it, and the piece it is in.
    """
    found = []
    last = Fraction(0)
    largest = max(abs(u), abs(v))
    cuts = {Fraction(whole, abs(run)) for run in (u, v, u + v, u - v) if run for whole in range(1, 2 * reach + 1)}
    for part in sorted(cut for cut in cuts if cut * largest <= reach):
        middle = (last + part) / 2
        found.append((part, piece_of(u * middle, v * middle), piece_of(u * part, v * part)))
        last = part
    return found


def leaves_in_plan(inside, side, p, q):
    """How much of the way from p to q it is to the first place that isn't inside in plan; None if there is none."""
    if p[:2] == q[:2]:
        return None
    for part, ahead, there in pieces_ahead(q[0] - p[0], q[1] - p[1], side + 1):
        pieces = [(FINE * p[0] + x, FINE * p[1] + y) for x, y in (ahead, there)]
        if pieces[0] not in inside:
            raise AssertionError("it isn't inside any more just behind a place that is")
        if pieces[1] not in inside:
            return part
    raise AssertionError("the room has no end")


def leaves_in_height(h, z, w):
    if z == w:
        return None
    return Fraction(z, z - w) if w < z else Fraction(h - z, w - z)


def open_walls(corners, h, inside, place):
    """All walls that the place is in, as the document tells what's open."""
    x, y, z = place
    walls = []
    for wall, ((a, b), (c, d)) in enumerate(zip(corners, started_at(corners, 1))):
        on_the_plane = (x - a) * (d - b) == (y - b) * (c - a)
        between_the_corners = (x - a) * (x - c) + (y - b) * (y - d) < 0
        if on_the_plane and between_the_corners and 0 < z < h:
            walls.append(wall)
    if z in (0, h) and piece_of(x, y) in inside:
        walls.append(len(corners) + (z == h))
    return walls


def first_place(h, side, inside, p, q):
    """How much of the way it is there, and x, y, z, in fractions."""
    part = min(found for found in (leaves_in_plan(inside, side, p, q), leaves_in_height(h, p[2], q[2]))
               if found is not None)
    return part, tuple(start + part * (end - start) for start, end in zip(p, q))


def reckoned(corners, h, side, inside, p, q):
    """What meets is to answer."""
    if p == q or (FINE * p[0], FINE * p[1]) not in inside or not 0 < p[2] < h:
        return [-3]
    part, place = first_place(h, side, inside, p, q)
    walls = open_walls(corners, h, inside, place)
    if len(walls) > 1:
        raise AssertionError("it is in two open walls")
    return as_told(walls[0], place) if walls else [-4]


def points_inside(corners, side, h):
    """All whole points inside."""
    fine = sorted(points_kept_dry(corners, side))
    return [(x // FINE, y // FINE, z) for x, y in fine if x % FINE == 0 and y % FINE == 0 for z in range(1, h)]


class SecondWay(unittest.TestCase):
    def compare(self, corners, side, h, starts, ends):
        """How many times each number was answered first, of all pairs of starts and ends."""
        inside = points_kept_dry(corners, side)
        room = room_of(corners, h=h)
        told = {0: 0, -3: 0, -4: 0}
        for p, q in itertools.product(starts, ends):
            answer = meets(*p, *q, room)
            self.assertEqual(answer, reckoned(corners, h, side, inside, p, q), (corners, h, p, q))
            told[answer[0]] += 1
        return told

    def compare_small(self, side, n, unit, heights, h=2):
        """From all whole points inside to all in and around the room that are as high as told."""
        around = list(itertools.product(range(-1, side * unit + 2), range(-1, side * unit + 2), heights))
        told = []
        for corners in small_rooms(side, n):
            larger = scaled(corners, unit)
            told.append(self.compare(larger, side * unit, h, points_inside(larger, side * unit, h), around))
        for answer in (0, -3, -4):
            self.assertGreater(sum(counted[answer] for counted in told), 10)

    def test_all_rooms_of_three_corners(self):
        self.compare_small(2, 3, 3, range(-1, 4))
        self.compare_small(3, 3, 2, (1, 3))

    def test_all_rooms_of_four_corners(self):
        self.compare_small(2, 4, 2, range(-1, 5), h=3)

    def test_all_rooms_of_five_corners(self):
        self.compare_small(2, 5, 2, (1, 2, -2))

    def test_all_rooms_of_six_corners(self):
        self.compare_small(2, 6, 2, (1, 3))

    def test_all_rooms_of_seven_corners(self):
        self.compare_small(2, 7, 2, (1, 4))

    def test_all_pairs_in_and_around(self):
        for corners, side in ((TRIANGLE, 4), (OCTAGON, 3), ([(0, 0), (4, 0), (4, 2), (2, 2), (2, 4), (0, 4)], 4)):
            points = list(itertools.product(range(-1, side + 2), range(-1, side + 2), range(-1, 4)))
            told = self.compare(corners, side, 2, points, points)
            self.assertGreater(min(told.values()), 50)

    def test_known_rooms_all_ways_round(self):
        around = list(itertools.product(range(-2, 15, 3), range(-1, 15, 3), (1, 5)))
        for corners in (WIDE_OCTAGON, CUP, ARROW, CROWN, SPIRAL):
            for turned in all_ways_round(corners, 12):
                told = self.compare(turned, 12, 3, points_inside(turned, 12, 3)[::9], around)
                self.assertGreater(told[0], 50)

    def test_64_corners(self):
        points = list(itertools.product((1, 21, 30, 61), (1, 2, 19), (1, 4)))
        for corners in (WIDE_COMB, WIDE_STAIRCASE):
            told = self.compare(corners, 62, 8, points, points + [(-5, 3, 2), (33, 70, 4), (90, 91, 3)])
            self.assertGreater(told[0], 50)
            self.assertGreater(told[-4], 5)


class ClearMeetsNothing(unittest.TestCase):
    def test_the_place_is_behind_what_is_clear(self):
        for corners, side in ((BOX, 6), (DIAMOND, 6), (CUP, 9), (ARROW, 8), (CROWN, 12)):
            inside = points_kept_dry(corners, side)
            room = room_of(corners, h=4)
            points = [point for point in itertools.product(range(1, side), range(1, side), (1, 3))
                      if where(*point, room) == [2]]
            seen = 0
            for p, q in itertools.permutations(points, 2):
                answer = meets(*p, *q, room)
                # How far it really is, for [-4] doesn't tell it.
                part, place = first_place(4, side, inside, p, q)
                self.assertEqual(clear(*p, *q, room), [int(part > 1)], (corners, p, q))
                self.assertNotEqual(part, 1)
                if answer[0] == 0:
                    self.assertEqual(how_far(p, q, answer), part)
                seen += part > 1
            self.assertGreater(seen, 50)


if __name__ == "__main__":
    unittest.main()
