import itertools
import unittest

from roomacoustics.rooms import judge
from samples import (
    ARROW, BOX, CUP, DIAMOND, FAULTS, HIGHEST, LARGEST_BOX, LOWEST, OCTAGON, TRIANGLE,
    check_keeps_nothing, check_plain_answer, comb, room_of, staircase, started_at,
)


def judge_corners(corners):
    return judge(room_of(corners))


def changed(room, at, number):
    return room[:at] + [number] + room[at + 1:]


class RoomsThatAreRooms(unittest.TestCase):
    def test_plain_shapes(self):
        for corners in (TRIANGLE, BOX, DIAMOND, OCTAGON):
            with self.subTest(corners=corners):
                self.assertEqual(judge_corners(corners), [0])

    def test_smallest(self):
        self.assertEqual(judge(room_of([(0, 0), (1, 0), (0, 1)], h=1)), [0])
        self.assertEqual(judge(room_of([(0, 0), (1, 0), (1, 1), (0, 1)], h=1)), [0])

    def test_not_convex(self):
        for corners in (CUP, ARROW, staircase(5), comb(4, 7)):
            with self.subTest(corners=corners):
                self.assertEqual(judge_corners(corners), [0])

    def test_64_corners(self):
        for corners in (staircase(31), comb(16, 4095)):
            with self.subTest(corners=corners):
                self.assertEqual(len(corners), 64)
                self.assertEqual(judge_corners(corners), [0])

    def test_every_number_of_corners_that_is_allowed(self):
        for steps in range(1, 32):
            even = staircase(steps, 2)
            self.assertEqual(judge_corners(even), [0])
            if len(even) < 64:
                self.assertEqual(judge_corners([(0, 1), (1, 0)] + even[1:]), [0])

    def test_the_octagon_has_all_eight_directions(self):
        directions = set()
        for (x, y), (u, v) in zip(OCTAGON, started_at(OCTAGON, 1)):
            directions.add((u - x, v - y))
        self.assertEqual(len(directions), 8)

    def test_whichever_corner_is_first(self):
        for corners in (TRIANGLE, BOX, DIAMOND, OCTAGON, CUP, ARROW, staircase(31)):
            for first in range(len(corners)):
                with self.subTest(corners=corners, first=first):
                    self.assertEqual(judge_corners(started_at(corners, first)), [0])

    def test_h_at_its_bounds(self):
        self.assertEqual(judge(room_of(BOX, h=1)), [0])
        self.assertEqual(judge(room_of(BOX, h=4095)), [0])

    def test_corners_at_their_bounds(self):
        self.assertEqual(judge_corners(LARGEST_BOX), [0])
        self.assertEqual(judge_corners([(0, 0), (4095, 0), (0, 4095)]), [0])
        self.assertEqual(judge_corners([(4095, 4094), (4095, 4095), (4094, 4095)]), [0])

    def test_every_stuff(self):
        for stuff in range(8):
            self.assertEqual(judge(room_of(BOX, floor=stuff)), [0])
            self.assertEqual(judge(room_of(BOX, ceiling=stuff)), [0])
            self.assertEqual(judge(room_of(BOX, stuff=stuff)), [0])

    def test_lines_that_only_come_near(self):
        # Side by side one apart, and within one another's stretch of x and y without a common point.
        near = [
            [(0, 0), (5, 0), (5, 1), (1, 1), (1, 2), (5, 2), (5, 3), (0, 3)],
            [(0, 0), (5, 5), (4, 5), (0, 1)],
            [(0, 0), (8, 0), (8, 8), (7, 7), (7, 1), (1, 1)],
        ]
        for corners in near:
            with self.subTest(corners=corners):
                self.assertEqual(judge_corners(corners), [0])


class Rule1(unittest.TestCase):
    def test_too_few_numbers(self):
        for room in ([], [3], [3, 0], [3, 0, 0]):
            self.assertEqual(judge(room), [-5, 1, 0])

    def test_not_three_a_corner(self):
        room = room_of(OCTAGON)
        for length in range(len(room)):
            if length % 3 != 0:
                self.assertEqual(judge(room[:length]), [-5, 1, 0])
        self.assertEqual(judge(room + [0]), [-5, 1, 0])
        self.assertEqual(judge(room + [0, 0]), [-5, 1, 0])

    def test_one_and_two_corners(self):
        self.assertEqual(judge_corners([(0, 0)]), [-5, 1, 0])
        self.assertEqual(judge_corners([(0, 0), (4, 0)]), [-5, 1, 0])

    def test_65_corners(self):
        corners = [(0, 1), (1, 0)] + staircase(31, 2)[1:]
        self.assertEqual(len(corners), 65)
        self.assertEqual(judge_corners(corners), [-5, 1, 0])

    def test_66_corners(self):
        corners = staircase(32)
        self.assertEqual(len(corners), 66)
        self.assertEqual(judge_corners(corners), [-5, 1, 0])

    def test_the_longest_lists(self):
        for length in (998, 999, 1000):
            self.assertEqual(judge([1] * length), [-5, 1, 0])


class Rule2(unittest.TestCase):
    def test_h(self):
        for h in (0, -1, -4095, 4096, LOWEST, HIGHEST):
            self.assertEqual(judge(room_of(BOX, h=h)), [-5, 2, 0])

    def test_stuff_of_floor_and_ceiling(self):
        for stuff in (-1, 8, LOWEST, HIGHEST):
            self.assertEqual(judge(room_of(BOX, floor=stuff)), [-5, 2, 0])
            self.assertEqual(judge(room_of(BOX, ceiling=stuff)), [-5, 2, 0])


class Rule3(unittest.TestCase):
    def test_each_number_of_each_corner(self):
        wrong = {0: (-1, 4096), 1: (-1, 4096), 2: (-1, 8)}
        for corners in (TRIANGLE, OCTAGON, staircase(31)):
            room = room_of(corners)
            for i in range(len(corners)):
                for place in range(3):
                    for number in wrong[place]:
                        self.assertEqual(judge(changed(room, 3 + 3 * i + place, number)), [-5, 3, i])

    def test_would_be_a_room_otherwise(self):
        self.assertEqual(judge_corners([(0, 0), (4096, 0), (4096, 4), (0, 4)]), [-5, 3, 1])
        self.assertEqual(judge_corners([(0, -1), (6, -1), (6, 4), (0, 4)]), [-5, 3, 0])
        self.assertEqual(judge_corners([(0, 0), (6, 0), (6, 4096), (0, 4096)]), [-5, 3, 2])


class Rule4(unittest.TestCase):
    def test_without_length(self):
        self.assertEqual(judge_corners([(0, 0), (0, 0), (6, 0), (6, 4), (0, 4)]), [-5, 4, 0])
        self.assertEqual(judge_corners([(0, 0), (6, 0), (6, 4), (6, 4), (0, 4)]), [-5, 4, 2])
        self.assertEqual(judge_corners([(0, 0), (6, 0), (6, 4), (0, 4), (0, 0)]), [-5, 4, 4])
        self.assertEqual(judge_corners([(5, 5)] * 3), [-5, 4, 0])

    def test_in_no_direction(self):
        self.assertEqual(judge_corners([(0, 0), (6, 1), (6, 4), (0, 4)]), [-5, 4, 0])
        self.assertEqual(judge_corners([(0, 0), (6, 0), (5, 4), (0, 4)]), [-5, 4, 1])
        self.assertEqual(judge_corners([(0, 0), (6, 0), (6, 4), (1, 4)]), [-5, 4, 3])

    def test_the_last_line_of_a_triangle(self):
        self.assertEqual(judge_corners([(0, 0), (4, 0), (4, 3)]), [-5, 4, 2])

    def test_every_direction_from_one_corner(self):
        for x in range(9):
            for y in range(9):
                run = (x - 4, y - 4)
                allowed = run != (0, 0) and (0 in run or abs(run[0]) == abs(run[1]))
                answer = judge_corners([(4, 4), (x, y), (4, 4)])
                with self.subTest(run=run):
                    self.assertEqual(answer, [-5, 4, 2] if allowed else [-5, 4, 0])


class Rule5(unittest.TestCase):
    def test_one_direction(self):
        for corners in (BOX, [(4, 0), (8, 4), (4, 8), (0, 4)]):
            for i, ((x, y), (u, v)) in enumerate(zip(corners, started_at(corners, 1))):
                halfway = ((x + u) // 2, (y + v) // 2)
                longer = corners[:i + 1] + [halfway] + corners[i + 1:]
                with self.subTest(corners=corners, i=i):
                    self.assertEqual(judge_corners(longer), [-5, 5, i])

    def test_opposite_directions(self):
        self.assertEqual(judge_corners([(0, 0), (6, 0), (4, 0), (4, 4), (0, 4)]), [-5, 5, 0])
        self.assertEqual(judge_corners([(0, 0), (6, 0), (6, 6), (6, 4), (0, 4)]), [-5, 5, 1])
        self.assertEqual(judge_corners([(0, 0), (3, 3), (1, 1), (1, 4), (0, 4)]), [-5, 5, 0])
        self.assertEqual(judge_corners([(4, 0), (2, 2), (3, 1), (3, 4), (0, 4)]), [-5, 5, 0])

    def test_the_last_line_and_line_0(self):
        self.assertEqual(judge_corners([(3, 0), (6, 0), (6, 4), (0, 4), (0, 0)]), [-5, 5, 4])
        self.assertEqual(judge_corners([(6, 0), (4, 0), (4, 4), (0, 4), (0, 0)]), [-5, 5, 4])
        self.assertEqual(judge_corners([(2, 2), (4, 4), (0, 4), (0, 0)]), [-5, 5, 3])

    def test_triangle_without_area(self):
        self.assertEqual(judge_corners([(0, 0), (4, 0), (2, 0)]), [-5, 5, 0])
        self.assertEqual(judge_corners([(0, 0), (2, 2), (4, 4)]), [-5, 5, 0])


class Rule6(unittest.TestCase):
    def test_crossing(self):
        self.assertEqual(judge_corners([(0, 0), (2, 2), (2, 0), (0, 2)]), [-5, 6, 0])
        self.assertEqual(judge_corners([(0, 0), (4, 4), (4, 2), (0, 2)]), [-5, 6, 0])
        self.assertEqual(judge_corners([(0, 0), (2, 0), (2, 3), (4, 3), (4, 1), (0, 1)]), [-5, 6, 1])

    def test_crossing_where_x_and_y_are_not_whole(self):
        self.assertEqual(judge_corners([(0, 0), (1, 1), (1, 0), (0, 1)]), [-5, 6, 0])

    def test_touching_with_an_end(self):
        # Corner 2 lies on line 4, which neither line 1 nor line 2 neighbours.
        self.assertEqual(judge_corners([(0, 0), (6, 0), (3, 3), (6, 6), (6, 3), (0, 3)]), [-5, 6, 1])
        # Corner 4 lies on line 0.
        self.assertEqual(judge_corners([(0, 0), (8, 0), (8, 4), (7, 4), (3, 0), (3, 4), (0, 4)]), [-5, 6, 0])

    def test_two_corners_in_one_place(self):
        self.assertEqual(judge_corners([(0, 0), (2, 0), (2, 2), (4, 2), (4, 4), (2, 4), (2, 2), (0, 2)]), [-5, 6, 1])

    def test_lying_on_one_another(self):
        part = [(0, 0), (6, 0), (6, 3), (4, 3), (4, 0), (2, 0), (2, 3), (0, 3)]
        self.assertEqual(judge_corners(part), [-5, 6, 0])
        whole = [(0, 0), (2, 0), (2, 2), (4, 2), (4, 0), (2, 0), (2, 2), (0, 2)]
        self.assertEqual(judge_corners(whole), [-5, 6, 0])
        slanted = [(0, 0), (4, 0), (4, 4), (2, 2), (2, 4), (4, 4), (4, 6), (0, 6)]
        self.assertEqual(judge_corners(slanted), [-5, 6, 1])

    def test_ends_meeting_on_one_straight_line(self):
        meeting = [(0, 0), (8, 0), (8, 4), (4, 4), (6, 2), (2, 2), (4, 4), (0, 4)]
        self.assertEqual(judge_corners(meeting), [-5, 6, 2])

    def test_the_last_line_and_line_0_are_neighbours(self):
        for corners in (TRIANGLE, BOX):
            self.assertEqual(judge_corners(corners), [0])

    def test_the_least_line_wherever_one_starts(self):
        touching = [(0, 0), (6, 0), (3, 3), (6, 6), (6, 3), (0, 3)]
        self.check_every_start(touching, [1, 2, 4])
        touching_twice = [(0, 0), (9, 0), (9, 9), (7, 9), (9, 7), (3, 7), (0, 4), (4, 4), (0, 8)]
        self.check_every_start(touching_twice, [1, 3, 4, 5, 6, 7, 8])

    def check_every_start(self, corners, met):
        for first in range(len(corners)):
            least = min((i - first) % len(corners) for i in met)
            self.assertEqual(judge_corners(started_at(corners, first)), [-5, 6, least])


class Rule7(unittest.TestCase):
    def test_the_other_way_round(self):
        for corners in (TRIANGLE, BOX, DIAMOND, OCTAGON, CUP, ARROW, LARGEST_BOX, staircase(31), comb(16, 4095)):
            with self.subTest(corners=corners):
                for first in range(len(corners)):
                    self.assertEqual(judge_corners(started_at(corners[::-1], first)), [-5, 7, 0])


class TheFirstFault(unittest.TestCase):
    def test_a_rule_ahead_of_later_ones(self):
        # One fault more each time, each one of an earlier rule and, where it can be, at a later wall.
        corners = [(0, 0), (0, 4), (2, 4), (2, 0)]
        self.assertEqual(judge_corners(corners), [-5, 7, 0])
        corners = [(0, 0), (0, 4), (2, 4), (2, 2), (0, 2), (2, 0)]
        self.assertEqual(judge_corners(corners), [-5, 6, 0])
        corners = corners + [(1, 0)]
        self.assertEqual(judge_corners(corners), [-5, 5, 5])
        corners = [(0, 0), (0, 1)] + corners[1:] + [(0, 3), (1, 1)]
        self.assertEqual(judge_corners(corners), [-5, 4, 7])
        room = room_of(corners)
        room = changed(room, len(room) - 1, 8)
        self.assertEqual(judge(room), [-5, 3, 9])
        room = changed(room, 0, 0)
        self.assertEqual(judge(room), [-5, 2, 0])
        self.assertEqual(judge(room + [0]), [-5, 1, 0])

    def test_the_least_wall_within_a_rule(self):
        room = room_of(OCTAGON)
        self.assertEqual(judge(changed(changed(room, 3 + 3 * 5, -1), 3 + 3 * 2 + 2, 8)), [-5, 3, 2])
        self.assertEqual(judge_corners([(0, 0), (6, 0), (7, 4), (0, 4), (0, 4)]), [-5, 4, 1])
        self.assertEqual(judge_corners([(0, 0), (6, 0), (6, 2), (6, 4), (2, 4), (0, 4)]), [-5, 5, 1])
        self.assertEqual(judge_corners([(0, 0), (6, 0), (3, 3), (6, 6), (6, 3), (0, 3)]), [-5, 6, 1])

    def test_list_of_faults(self):
        for room, rule, wall in FAULTS:
            with self.subTest(room=room):
                self.assertEqual(judge(room), [-5, rule, wall])


class LargeNumbers(unittest.TestCase):
    def test_in_every_place(self):
        for corners in (TRIANGLE, OCTAGON, staircase(31)):
            room = room_of(corners)
            for at in range(len(room)):
                answer = [-5, 2, 0] if at < 3 else [-5, 3, (at - 3) // 3]
                self.assertEqual(judge(changed(room, at, LOWEST)), answer)
                self.assertEqual(judge(changed(room, at, HIGHEST)), answer)

    def test_in_all_places(self):
        for number in (LOWEST, HIGHEST):
            for length in range(20):
                is_shaped = length >= 12 and length % 3 == 0
                self.assertEqual(judge([number] * length), [-5, 2, 0] if is_shaped else [-5, 1, 0])
            self.assertEqual(judge([number] * 1000), [-5, 1, 0])
            self.assertEqual(judge([1, 0, 0] + [number] * 12), [-5, 3, 0])


class EachCallByItself(unittest.TestCase):
    def test_nothing_is_changed_or_kept(self):
        for corners in (TRIANGLE, BOX, CUP, staircase(31)):
            check_keeps_nothing(self, judge, room_of(corners))
        for room, rule, wall in FAULTS:
            check_keeps_nothing(self, judge, room)

    def test_plain_answers(self):
        check_plain_answer(self, judge(room_of(BOX)))
        for room, rule, wall in FAULTS:
            check_plain_answer(self, judge(room))


# What follows reckons the fault of lines in another way, step by step along them, and compares.

EIGHT = [(1, 0), (1, 1), (0, 1), (-1, 1), (-1, 0), (-1, -1), (0, -1), (1, -1)]


def sign(number):
    return (number > 0) - (number < 0)


def direction_of(start, end):
    """A number from 0 to 7, None if it is none of the eight."""
    x, y = end[0] - start[0], end[1] - start[1]
    if (x, y) == (0, 0) or (x != 0 and y != 0 and abs(x) != abs(y)):
        return None
    return EIGHT.index((sign(x), sign(y)))


def points_by_halves(start, end):
    """The line's points at whole and half numbers, doubled: lines in eight directions meet nowhere else."""
    x, y = 2 * start[0], 2 * start[1]
    points = {(x, y)}
    while (x, y) != (2 * end[0], 2 * end[1]):
        x, y = x + sign(2 * end[0] - x), y + sign(2 * end[1] - y)
        points.add((x, y))
    return points


def walked_fault(corners):
    n = len(corners)
    ends = started_at(corners, 1)
    directions = [direction_of(start, end) for start, end in zip(corners, ends)]
    if None in directions:
        return [-5, 4, directions.index(None)]
    turns = [(directions[(i + 1) % n] - directions[i]) % 8 for i in range(n)]
    for i, turn in enumerate(turns):
        if turn % 4 == 0:
            return [-5, 5, i]
    points = [points_by_halves(start, end) for start, end in zip(corners, ends)]
    for i, j in itertools.combinations(range(n), 2):
        if j - i not in (1, n - 1) and points[i] & points[j]:
            return [-5, 6, i]
    # Once round to the left are eight eighths of a turn.
    return [0] if sum(turn if turn < 4 else turn - 8 for turn in turns) == 8 else [-5, 7, 0]


class AllSmallOnes(unittest.TestCase):
    def compare(self, width, depth, n):
        places = list(itertools.product(range(width), range(depth)))
        told = {}
        for corners in itertools.product(places, repeat=n):
            answer = judge_corners(corners)
            if answer != walked_fault(list(corners)):
                self.fail(f"{corners}: {answer}")
            told[tuple(answer[:2])] = told.get(tuple(answer[:2]), 0) + 1
        return told

    def test_three_corners(self):
        self.compare(4, 4, 3)

    def test_four_corners(self):
        self.compare(4, 3, 4)

    def test_five_corners(self):
        told = self.compare(3, 3, 5)
        self.assertEqual(sorted(told), [(-5, 4), (-5, 5), (-5, 6), (-5, 7), (0,)])

    def test_six_corners(self):
        self.compare(3, 2, 6)


if __name__ == "__main__":
    unittest.main()
