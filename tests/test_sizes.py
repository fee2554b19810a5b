import itertools
import unittest

from roomacoustics.rooms import judge, sizes
from samples import (
    ARROW, BOX, CUP, DIAMOND, FAULTS, HIGHEST, LARGEST_BOX, LOWEST, OCTAGON, TRIANGLE,
    check_keeps_nothing, check_plain_answer, comb, room_of, staircase, started_at,
    turned_by_a_quarter, turned_by_an_eighth,
)

# Of each room what is told of its plan: twice the area, the straight lines' length, the slanted ones' width.
BY_HAND = [
    (BOX, 48, 20, 0),
    (TRIANGLE, 16, 8, 4),
    (DIAMOND, 36, 0, 12),
    (OCTAGON, 14, 4, 4),
    (CUP, 72, 34, 0),
    (ARROW, 96, 24, 8),
    ([(0, 0), (1, 0), (0, 1)], 1, 2, 1),
    ([(0, 0), (1, 0), (1, 1), (0, 1)], 2, 4, 0),
    ([(1, 0), (2, 1), (1, 2), (0, 1)], 4, 0, 4),
    (staircase(31), 992, 124, 0),
    (turned_by_an_eighth(staircase(31), 31), 1984, 0, 124),
    (comb(16, 4095), 131070, 131072, 0),
    (turned_by_an_eighth(comb(16, 4064), 4064), 260156, 0, 130080),
    ([(0, 0), (4095, 0), (0, 4095)], 16769025, 8190, 4095),
    (LARGEST_BOX, 33538050, 16380, 0),
]


class ByHand(unittest.TestCase):
    def test_plans(self):
        for corners, area, length, width in BY_HAND:
            with self.subTest(corners=corners):
                self.assertEqual(sizes(room_of(corners, h=1)), [0, area, length, width, area])

    def test_the_longest_plans_have_64_corners(self):
        self.assertEqual([len(corners) for corners, area, length, width in BY_HAND[9:13]], [64] * 4)

    def test_boxes_with_their_volume(self):
        self.assertEqual(sizes(room_of(BOX, h=3)), [0, 48, 20, 0, 144])
        self.assertEqual(sizes(room_of(TRIANGLE, h=3)), [0, 16, 8, 4, 48])

    def test_volume_of_any_height(self):
        for corners, area, length, width in BY_HAND:
            for h in (1, 2, 3, 1000, 4094, 4095):
                self.assertEqual(sizes(room_of(corners, h=h)), [0, area, length, width, area * h])

    def test_the_largest(self):
        self.assertEqual(sizes(room_of(LARGEST_BOX, h=4095)), [0, 33538050, 16380, 0, 137338314750])

    def test_stuffs_do_not_count(self):
        for stuff in range(8):
            room = room_of(CUP, h=2, floor=7 - stuff, ceiling=stuff, stuff=stuff)
            self.assertEqual(sizes(room), [0, 72, 34, 0, 144])


class EveryLineCounts(unittest.TestCase):
    def test_the_last_line_straight(self):
        self.assertEqual(sizes(room_of([(0, 0), (4, 0), (0, 4)], h=1)), [0, 16, 8, 4, 16])
        self.assertEqual(sizes(room_of([(4, 0), (0, 4), (0, 0)], h=1)), [0, 16, 8, 4, 16])

    def test_the_last_line_slanted(self):
        self.assertEqual(sizes(room_of([(0, 4), (0, 0), (4, 0)], h=1)), [0, 16, 8, 4, 16])
        self.assertEqual(sizes(room_of([(3, 0), (6, 3), (3, 6), (0, 3)], h=1)), [0, 36, 0, 12, 36])

    def test_whichever_corner_is_first(self):
        for corners, area, length, width in BY_HAND:
            for first in range(len(corners)):
                room = room_of(started_at(corners, first), h=2)
                self.assertEqual(sizes(room), [0, area, length, width, 2 * area])

    def test_whichever_way_the_lines_run(self):
        for corners, area, length, width in BY_HAND:
            for turn in range(4):
                self.assertEqual(sizes(room_of(corners, h=2)), [0, area, length, width, 2 * area])
                corners = turned_by_a_quarter(corners, 4095)

    def test_wherever_the_room_stands(self):
        for corners in (TRIANGLE, BOX, DIAMOND, OCTAGON, CUP, ARROW):
            moved = [(x + 4000, y + 321) for x, y in corners]
            self.assertEqual(sizes(room_of(moved)), sizes(room_of(corners)))


class Faults(unittest.TestCase):
    def test_each_rule(self):
        self.assertEqual(sorted({rule for room, rule, wall in FAULTS}), [1, 2, 3, 4, 5, 6, 7])
        for room, rule, wall in FAULTS:
            with self.subTest(room=room):
                self.assertEqual(sizes(room), [-5, rule, wall])

    def test_large_numbers_in_every_place(self):
        for number in (LOWEST, HIGHEST):
            for at in range(len(room_of(OCTAGON))):
                room = room_of(OCTAGON)
                room[at] = number
                self.assertEqual(sizes(room), [-5, 2, 0] if at < 3 else [-5, 3, (at - 3) // 3])

    def test_as_judge(self):
        places = list(itertools.product(range(3), repeat=2))
        for corners in itertools.product(places, repeat=4):
            room = room_of(corners)
            judged = judge(room)
            answer = sizes(room)
            self.assertEqual(answer[:1] if judged == [0] else answer, judged)


class EachCallByItself(unittest.TestCase):
    def test_nothing_is_changed_or_kept(self):
        for corners, area, length, width in BY_HAND:
            check_keeps_nothing(self, sizes, room_of(corners))
        for room, rule, wall in FAULTS:
            check_keeps_nothing(self, sizes, room)

    def test_plain_answers(self):
        for corners, area, length, width in BY_HAND:
            check_plain_answer(self, sizes(room_of(corners)))
        for room, rule, wall in FAULTS:
            check_plain_answer(self, sizes(room))


# What follows measures in another way: by counting the quarters of unit squares, and by walking along the lines.

# The middles of the four parts that a unit square's two diagonals cut it into, in sixths.
MIDDLES = [(3, 1), (5, 3), (3, 5), (1, 3)]


def is_within(corners, x, y):
    """Whether a ray from the point (in sixths, on no line) toward larger x passes an odd number of lines."""
    within = False
    for (a, b), (c, d) in zip(corners, started_at(corners, 1)):
        low, high = sorted([(6 * b, 6 * a), (6 * d, 6 * c)])
        if low[0] <= y < high[0]:
            run = 0 if low[1] == high[1] else (1 if low[1] < high[1] else -1)
            if x < low[1] + run * (y - low[0]):
                within = not within
    return within


def counted_area(corners, side):
    """Twice the area, from quarters of unit squares: no line in eight directions cuts through one."""
    quarters = 0
    for x, y in itertools.product(range(side), repeat=2):
        for u, v in MIDDLES:
            quarters += is_within(corners, 6 * x + u, 6 * y + v)
    return quarters // 2


def walked_lengths(corners):
    straight, slanted = 0, 0
    for (x, y), (u, v) in zip(corners, started_at(corners, 1)):
        while (x, y) != (u, v):
            if x == u or y == v:
                straight += 1
            else:
                slanted += 1
            x, y = x + (x < u) - (x > u), y + (y < v) - (y > v)
    return [straight, slanted]


class AllSmallOnes(unittest.TestCase):
    def compare(self, side, n):
        """How many rooms there were."""
        places = list(itertools.product(range(side + 1), repeat=2))
        rooms = 0
        for corners in itertools.product(places, repeat=n):
            answer = sizes(room_of(corners, h=5))
            if answer[0] == 0:
                rooms += 1
                area = counted_area(list(corners), side)
                self.assertEqual(answer, [0, area] + walked_lengths(list(corners)) + [5 * area], corners)
        return rooms

    def test_three_corners(self):
        self.assertGreater(self.compare(3, 3), 0)

    def test_four_corners(self):
        self.assertGreater(self.compare(3, 4), 0)

    def test_five_corners(self):
        self.assertGreater(self.compare(2, 5), 0)


if __name__ == "__main__":
    unittest.main()
