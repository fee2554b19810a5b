"""Rooms, as lists of whole numbers: h, the floor's stuff, the ceiling's; then of each corner x, y, its wall's stuff."""

FEWEST_CORNERS = 3
MOST_CORNERS = 64
LARGEST_LENGTH = 4095
LARGEST_STUFF = 7

OUTSIDE = 0
ON_SURFACE = 1
INSIDE = 2


def judge(room):
    """[0] if it is a room, else [-5, rule, wall]."""
    fault = find_fault(room)
    if fault is not None:
        return [-5] + fault
    return [0]


def sizes(room):
    """[0, twice the plan's area, length of lines along x or y, units of x of all others, twice the volume]."""
    answer = judge(room)
    if answer != [0]:
        return answer
    lines = lines_of(room)
    area = twice_area(lines)
    return [0, area, straight_length(lines), slanted_width(lines), area * room[0]]


def where(x, y, z, room):
    """[2] if the point is inside, [1] if it is on a wall, the floor or the ceiling, [0] if it is outside."""
    answer = judge(room)
    if answer != [0]:
        return answer
    return [place_in_room(room, x, y, z)]


def clear(x, y, z, u, v, w, room):
    """[1] if the points x, y, z and u, v, w and all points between them are inside, else [0]."""
    answer = judge(room)
    if answer != [0]:
        return answer
    if place_in_room(room, x, y, z) != INSIDE or place_in_room(room, u, v, w) != INSIDE:
        return [0]
    # Between two heights inside there are no others, and a way that starts inside leaves it over a line alone.
    return [0 if is_touched(lines_of(room), (x, y, u, v)) else 1]


def mirror(wall, x, y, z, room):
    """[0, x, y, z] of the point mirrored in that wall's plane, [-1] if there is no such wall."""
    answer = judge(room)
    if answer != [0]:
        return answer
    lines = lines_of(room)
    if wall < len(lines):
        return [0] + mirrored_in_line(lines[wall], x, y) + [z]
    if wall == len(lines):
        return [0, x, y, -z]
    if wall == len(lines) + 1:
        return [0, x, y, 2 * room[0] - z]
    return [-1]


def meets(x, y, z, u, v, w, room):
    """[0, wall, a, b, c, d]: the ray from x, y, z through u, v, w ends in that open wall, at a, b and c over d.

    [-3] if x, y, z isn't inside or u, v, w is the same point, [-4] if the ray ends in no open wall.
    """
    answer = judge(room)
    if answer != [0]:
        return answer
    p = (x, y, z)
    q = (u, v, w)
    if place_in_room(room, x, y, z) != INSIDE or p == q:
        return [-3]
    place = place_on_way(p, q, first_stop(room, p, q))
    walls = walls_at(room, place)
    # An open wall is what one wall has for itself: edges and corners belong to two or three.
    if len(walls) != 1:
        return [-4]
    return [0] + walls + place


def find_fault(room):
    """The first fault as [rule, wall], None if there is none."""
    if not has_whole_corners(room):
        return [1, 0]
    if not has_sound_head(room):
        return [2, 0]
    wall = first_wrong_corner(room)
    if wall is not None:
        return [3, wall]
    return find_fault_of_lines(lines_of(room))


def find_fault_of_lines(lines):
    """As find_fault, from rule 4 on: what the lines alone tell."""
    wall = first_wrong_line(lines)
    if wall is not None:
        return [4, wall]
    wall = first_line_going_on(lines)
    if wall is not None:
        return [5, wall]
    wall = first_line_met(lines)
    if wall is not None:
        return [6, wall]
    if twice_area(lines) <= 0:
        return [7, 0]
    return None


def count_corners(room):
    return (len(room) - 3) // 3


def has_whole_corners(room):
    if len(room) < 3 or len(room) % 3 != 0:
        return False
    return FEWEST_CORNERS <= count_corners(room) <= MOST_CORNERS


def has_sound_head(room):
    return 1 <= room[0] <= LARGEST_LENGTH and is_stuff(room[1]) and is_stuff(room[2])


def is_stuff(number):
    return 0 <= number <= LARGEST_STUFF


def is_coordinate(number):
    return 0 <= number <= LARGEST_LENGTH


def first_wrong_corner(room):
    for i in range(count_corners(room)):
        at = 3 + 3 * i
        if not (is_coordinate(room[at]) and is_coordinate(room[at + 1]) and is_stuff(room[at + 2])):
            return i
    return None


def lines_of(room):
    """Of each line the x, y it starts from and the x, y it ends at."""
    corners = count_corners(room)
    lines = []
    for i in range(corners):
        start = 3 + 3 * i
        end = 3 + 3 * ((i + 1) % corners)
        lines.append((room[start], room[start + 1], room[end], room[end + 1]))
    return lines


def run_along_x(line):
    return line[2] - line[0]


def run_along_y(line):
    return line[3] - line[1]


def is_straight(line):
    """Whether it runs along x or along y (or has no length)."""
    return run_along_x(line) == 0 or run_along_y(line) == 0


def has_direction(line):
    along_x = abs(run_along_x(line))
    along_y = abs(run_along_y(line))
    return along_x + along_y > 0 and (is_straight(line) or along_x == along_y)


def first_wrong_line(lines):
    for i, line in enumerate(lines):
        if not has_direction(line):
            return i
    return None


def are_parallel(one, other):
    return run_along_x(one) * run_along_y(other) == run_along_y(one) * run_along_x(other)


def first_line_going_on(lines):
    """The first line that runs in the next one's direction or in the opposite one."""
    for i, line in enumerate(lines):
        if are_parallel(line, lines[(i + 1) % len(lines)]):
            return i
    return None


def first_line_met(lines):
    """The first line that has a point in common with a line that isn't its neighbour."""
    for i in range(len(lines)):
        if is_met(lines, i):
            return i
    return None


def is_met(lines, i):
    for j, other in enumerate(lines):
        # Steps ahead from line i: 0 is the line itself, 1 the next one, one less than all the one before.
        ahead = (j - i) % len(lines)
        if 1 < ahead < len(lines) - 1 and have_common_point(lines[i], other):
            return True
    return False


def have_common_point(one, other):
    # The spans are needed for lines on one straight line: there neither has an end beside the other.
    if not (spans_overlap(one, other, 0) and spans_overlap(one, other, 1)):
        return False
    return reaches_across(one, other) and reaches_across(other, one)


def spans_overlap(one, other, axis):
    """Whether the stretches of x (axis 0) or of y (axis 1) that the lines go over have a number in common."""
    lowest = max(min(one[axis], one[axis + 2]), min(other[axis], other[axis + 2]))
    highest = min(max(one[axis], one[axis + 2]), max(other[axis], other[axis + 2]))
    return lowest <= highest


def reaches_across(one, other):
    """Whether the ends of one aren't both strictly on the same side of the other, drawn on without end."""
    return side_of(other, one[0], one[1]) * side_of(other, one[2], one[3]) <= 0


def side_of(line, x, y):
    """Above 0 if the point is to the line's left, below 0 to its right, 0 straight ahead, behind or on it."""
    return run_along_x(line) * (y - line[1]) - run_along_y(line) * (x - line[0])


def twice_area(lines):
    """Twice the area that the lines go round; below 0 if it lies to their right."""
    return sum([line[0] * line[3] - line[2] * line[1] for line in lines])


def straight_length(lines):
    """How long all lines along x or y are together."""
    return sum([abs(run_along_x(line)) + abs(run_along_y(line)) for line in lines if is_straight(line)])


def slanted_width(lines):
    """Over how many units of x all other lines go together."""
    return sum([abs(run_along_x(line)) for line in lines if not is_straight(line)])


def place_in_room(room, x, y, z):
    # On the surface is what's on the edge in plan or in height and outside in neither: the lesser place tells it.
    return min(place_in_plan(lines_of(room), x, y), place_in_height(room[0], z))


def place_in_height(h, z):
    if z < 0 or z > h:
        return OUTSIDE
    if z == 0 or z == h:
        return ON_SURFACE
    return INSIDE


def place_in_plan(lines, x, y):
    # A point is a line without length here.
    if is_touched(lines, (x, y, x, y)):
        return ON_SURFACE
    # Each line that a ray from the point toward larger x passes leads in or out.
    passed = [line for line in lines if is_passed(line, x, y)]
    return INSIDE if len(passed) % 2 == 1 else OUTSIDE


def is_touched(lines, way):
    """Whether one of the lines has a point in common with the way, a line that may run in any direction."""
    for line in lines:
        if have_common_point(line, way):
            return True
    return False


def is_passed(line, x, y):
    """Whether the ray from the point, which isn't on the line, toward larger x passes the line."""
    # An end just as high as the ray counts as above it: so a corner at which the lines stay on one side of the ray
    # counts twice or not at all, one at which they change sides once, and a line along the ray not at all.
    if (line[1] < y) == (line[3] < y):
        return False
    return (side_of(line, x, y) > 0) == (run_along_y(line) > 0)


def mirrored_in_line(line, x, y):
    """The point's x and y, mirrored in the line drawn on without end."""
    along_x = run_along_x(line)
    along_y = run_along_y(line)
    twice_off = 2 * side_of(line, x, y)
    # In the eight directions both divisions leave no rest: of the two runs one is 0, or they are as long.
    square = along_x * along_x + along_y * along_y
    return [x + along_y * twice_off // square, y - along_x * twice_off // square]


def first_stop(room, p, q):
    """How much of the way from p, which is inside, to q the ray goes until it ends, and what that is over."""
    way = (p[0], p[1], q[0], q[1])
    lines = [line for line in lines_of(room) if reaches_across(line, way)]
    first = None
    for near, far in zip(depths(room[0], lines, p), depths(room[0], lines, q)):
        # Just short of its end the ray is inside, so on the room's side of some wall there: no other needs asking.
        if near > 0 and near > far:
            stop = (near, near - far)
            if first is None or is_nearer(stop, first):
                first = stop
    return first


def depths(h, lines, point):
    """How far the point is on the room's side of each line, the floor and the ceiling, each in a measure of its own."""
    return [side_of(line, point[0], point[1]) for line in lines] + [point[2], h - point[2]]


def is_nearer(one, other):
    return one[0] * other[1] < other[0] * one[1]


def place_on_way(p, q, stop):
    """x, y, z and what all three are over, without a common divisor, as far from p to q as the stop tells."""
    over = stop[1]
    place = [p[axis] * over + (q[axis] - p[axis]) * stop[0] for axis in range(3)] + [over]
    divisor = over
    for number in place:
        divisor = common_divisor(divisor, number)
    return [number // divisor for number in place]


def common_divisor(one, other):
    """The greatest one, of a number above 0 and another that is at least 0."""
    while other != 0:
        rest = one % other
        one = other
        other = rest
    return one


def walls_at(room, place):
    """All walls that the place, which must not be outside, is on: edges and corners are on each that meets there."""
    lines = lines_of(room)
    walls = [wall for wall, line in enumerate(lines) if is_on_line(line, place)]
    if place[2] == 0:
        walls.append(len(lines))
    if place[2] == room[0] * place[3]:
        walls.append(len(lines) + 1)
    return walls


def is_on_line(line, place):
    """Whether the place is on the line in plan."""
    # In a plan so many times larger the place is whole.
    larger = [number * place[3] for number in line]
    return have_common_point(larger, (place[0], place[1], place[0], place[1]))
