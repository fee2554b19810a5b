"""What the document promises over the whole program, with all its calls together."""

import functools
import itertools
import unittest

from roomacoustics.rooms import clear, judge, meets, mirror, sizes, where
from samples import (
    ARROW, BOX, CROWN, CUP, DIAMOND, FAULTS, HIGHEST, LOWEST, OCTAGON, SPIRAL, TRIANGLE, Unchangeable, WIDE_COMB,
    WIDE_OCTAGON, WIDE_STAIRCASE, all_ways_round, room_of, scaled, small_rooms, turned_by_an_eighth,
)

KNOWN = [TRIANGLE, BOX, DIAMOND, WIDE_OCTAGON, CUP, ARROW, CROWN, SPIRAL]

STEPS = [(1, 0, 0), (-1, 0, 0), (0, 1, 0), (0, -1, 0), (0, 0, 1), (0, 0, -1)]


def neighbours(point):
    return [tuple(number + more for number, more in zip(point, step)) for step in STEPS]


@functools.lru_cache(maxsize=None)
def places(corners, h):
    """Of each whole point in and around the room (of a tuple of corners) what where tells of it."""
    room = room_of(corners, h=h)
    wide = max(x for x, y in corners) + 2
    high = max(y for x, y in corners) + 2
    points = itertools.product(range(-1, wide), range(-1, high), range(-1, h + 2))
    return {point: where(*point, room)[0] for point in points}


class OneInside(unittest.TestCase):
    """Promise 1, in rooms so large that whole points lie wherever one goes in them."""

    def rooms(self):
        """Rooms and their heights."""
        small = [(scaled(corners, 4), 2) for n in (3, 4, 5, 6, 7) for corners in small_rooms(2, n)]
        return small + [(scaled(corners, 2), 3) for corners in KNOWN]

    def test_of_two_points_inside_one_comes_to_the_other(self):
        for corners, h in self.rooms():
            room = room_of(corners, h=h)
            told = places(tuple(corners), h)
            left = {point for point, place in told.items() if place == 2}
            self.assertGreater(len(left), 0)
            fresh = [left.pop()]
            while fresh:
                point = fresh.pop()
                for neighbour in neighbours(point):
                    if neighbour in left:
                        self.assertEqual(clear(*point, *neighbour, room), [1])
                        left.remove(neighbour)
                        fresh.append(neighbour)
            self.assertEqual(left, set(), corners)

    def test_who_leaves_it_passes_its_surface(self):
        for corners, h in self.rooms():
            told = places(tuple(corners), h)
            for point, place in told.items():
                if place == 2:
                    # Such a step has no whole point between its ends, and no surface but through whole points.
                    self.assertNotIn(0, [told[neighbour] for neighbour in neighbours(point)], corners)

    def test_a_straight_way_out_passes_it_too(self):
        for corners in KNOWN:
            room = room_of(corners, h=3)
            told = places(tuple(corners), 3)
            inside = [point for point, place in told.items() if place == 2]
            outside = [point for point, place in told.items() if place == 0]
            for p, q in itertools.product(inside[::9], outside[::5]):
                answer = meets(*p, *q, room)
                self.assertEqual(clear(*p, *q, room), [0])
                self.assertIn(answer[0], (0, -4))
                if answer[0] == 0:
                    self.assertTrue(lies_between(p, q, answer[2:]), (corners, p, q))


def lies_between(p, q, place):
    """Whether the place is strictly between p and q, so far as the numbers by themselves tell."""
    for start, end, number in zip(p, q, place):
        lowest, highest = sorted((start * place[3], end * place[3]))
        if not (lowest < number < highest or lowest == number == highest):
            return False
    return True


class Mirrored(unittest.TestCase):
    """Promise 2, of places that meets tells: a place in a wall stays where it is in that wall's mirror."""

    def test_whole_places_stay(self):
        starts = ((1, 1, 1), (3, 1, 2), (1, 3, 1), (7, 6, 2))
        for corners in KNOWN + [WIDE_COMB, WIDE_STAIRCASE]:
            room = room_of(corners, h=3)
            found = 0
            for p, way in itertools.product(starts, STEPS + [(1, 2, 0), (2, 1, 1)]):
                answer = meets(*p, *[number + more for number, more in zip(p, way)], room)
                if answer[0] == 0 and answer[5] == 1:
                    self.assertEqual(mirror(*answer[1:5], room), [0, *answer[2:5]])
                    found += 1
            self.assertGreater(found, 0)

    def test_the_wall_stands_half_way_to_the_mirrored_point(self):
        for corners in (TRIANGLE, BOX, DIAMOND, WIDE_OCTAGON):
            room = room_of(corners, h=4)
            walls = set()
            for p, wall in itertools.product(places(tuple(corners), 4), range(len(corners) + 2)):
                q = mirror(wall, *p, room)[1:]
                answer = meets(*p, *q, room)
                if answer[0] == 0:
                    # Another wall may stand ahead of it, but none of these rooms goes on behind it.
                    self.assertTrue(lies_between(p, q, answer[2:]))
                if answer[:2] == [0, wall]:
                    middle = [start + end for start, end in zip(p, q)]
                    self.assertEqual([2 * number for number in answer[2:5]], [number * answer[5] for number in middle])
                    walls.add(wall)
            self.assertEqual(walls, set(range(len(corners) + 2)))


class ClearBothWays(unittest.TestCase):
    """Promise 3: clear is the same the other way round; what's clear meets nothing."""

    def test_known_rooms_all_ways_round(self):
        for corners in (CUP, ARROW, WIDE_OCTAGON):
            for turned in all_ways_round(corners, 12):
                self.check(turned, 12, 3)

    def test_64_corners(self):
        for corners in (WIDE_COMB, WIDE_STAIRCASE):
            self.check(corners, 62, 30)

    def check(self, corners, side, step):
        room = room_of(corners, h=4)
        points = [point for point in itertools.product(range(1, side, step), range(1, side, step), (1, 2))
                  if where(*point, room) == [2]]
        for p, q in itertools.permutations(points, 2):
            seen = clear(*p, *q, room)
            self.assertEqual(clear(*q, *p, room), seen)
            answer = meets(*p, *q, room)
            if answer[0] == 0:
                self.assertEqual(lies_between(p, q, answer[2:]), seen == [0], (corners, p, q))


class InThatWallAlone(unittest.TestCase):
    """Promise 4, in a room so many times larger that the place is whole: there where and meets tell of it again."""

    def test_in_a_larger_room(self):
        for corners in KNOWN:
            room = room_of(corners, h=3)
            told = places(tuple(corners), 3)
            inside = [point for point, place in told.items() if place == 2]
            for p, q in itertools.product(inside[::13], list(told)[::31]):
                answer = meets(*p, *q, room)
                if answer[0] == 0:
                    self.check(corners, p, q, answer)

    def check(self, corners, p, q, answer):
        wall, place, over = answer[1], answer[2:5], answer[5]
        larger = room_of(scaled(corners, 2 * over), h=6 * over)
        start = [number * 2 * over for number in p]
        end = [number * 2 for number in place]
        middle = [number * over + there for number, there in zip(p, place)]
        self.assertEqual(where(*end, larger), [1])
        self.assertEqual(where(*middle, larger), [2])
        self.assertEqual(clear(*start, *middle, larger), [1])
        for through in (middle, end):
            self.assertEqual(meets(*start, *through, larger), [0, wall, *end, 1])
        # In that wall's mirror it stays.
        self.assertEqual(mirror(wall, *end, larger), [0, *end])


class TheSixCalls(unittest.TestCase):
    CALLS = [
        judge,
        sizes,
        lambda room: where(1, 1, 1, room),
        lambda room: clear(1, 1, 1, 2, 1, 2, room),
        lambda room: mirror(1, 1, 1, 1, room),
        lambda room: mirror(66, 1, 1, 1, room),
        lambda room: meets(1, 1, 1, 2, 1, 2, room),
        lambda room: meets(1, 1, 1, LOWEST, HIGHEST, 2, room),
    ]

    def rooms(self):
        shapes = KNOWN + [OCTAGON, WIDE_COMB, turned_by_an_eighth(WIDE_STAIRCASE, 62)]
        return [room_of(corners) for corners in shapes] + [room for room, rule, wall in FAULTS]

    def test_each_is_as_if_for_the_first_time(self):
        asked = [(call, room) for room in self.rooms() for call in self.CALLS]
        forward = [call(list(room)) for call, room in asked]
        backward = [call(list(room)) for call, room in reversed(asked)]
        self.assertEqual(forward, backward[::-1])

    def test_what_is_handed_in_is_not_changed(self):
        for room in self.rooms():
            before = list(room)
            for call in self.CALLS:
                answer = call(room)
                self.assertEqual(call(Unchangeable(room)), answer)
                self.assertEqual(room, before)

    def test_a_fault_comes_ahead_of_all_else(self):
        for room, rule, wall in FAULTS:
            for call in self.CALLS:
                self.assertEqual(call(room), [-5, rule, wall])

    def test_what_is_given_back(self):
        # 0 and what is told behind it; a refusal, and what where and clear tell, by itself.
        for corners in KNOWN:
            lengths = [(answer[0], len(answer)) for answer in [call(room_of(corners)) for call in self.CALLS[:6]]]
            self.assertEqual(lengths[:2], [(0, 1), (0, 5)])
            self.assertIn(lengths[2], [(0, 1), (1, 1), (2, 1)])
            self.assertIn(lengths[3], [(0, 1), (1, 1)])
            self.assertEqual(lengths[4:], [(0, 4), (-1, 1)])
            for call in self.CALLS[6:]:
                answer = call(room_of(corners))
                self.assertIn((answer[0], len(answer)), [(0, 6), (-3, 1), (-4, 1)])


if __name__ == "__main__":
    unittest.main()
