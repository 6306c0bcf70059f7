"""Rooms as lists: what is wrong with one, and which points are inside it and clear of one another.

A point is a tuple (x, y, z), or (x, y) where only the plan counts. A line is a tuple of its two ends.
"""

HEAD = 3
LEAST_CORNERS = 3
MOST_CORNERS = 64
LARGEST_LENGTH = 4095
LARGEST_STUFF = 7


def side(a, b, p):
    """Above 0 where p lies to the left of the way from a to b, 0 on their line, below 0 to the right."""
    return (b[0] - a[0]) * (p[1] - a[1]) - (b[1] - a[1]) * (p[0] - a[0])


def spans_meet(a, b, c, d, axis):
    """Whether a to b and c to d, seen along one axis alone, have a number in common."""
    return (min(a[axis], b[axis]) <= max(c[axis], d[axis])
            and min(c[axis], d[axis]) <= max(a[axis], b[axis]))


def lines_meet(a, b, c, d):
    """Whether a to b and c to d, ends counted, have a point in common; a and b may be one point."""
    # On one straight line all sides are 0, and only the spans tell lines apart.
    return (spans_meet(a, b, c, d, 0)
            and spans_meet(a, b, c, d, 1)
            and side(a, b, c) * side(a, b, d) <= 0
            and side(c, d, a) * side(c, d, b) <= 0)


def corners_of(room):
    """A room's corners in plan."""
    return [(room[k], room[k + 1]) for k in range(HEAD, len(room), 3)]


def lines_of(room):
    """A room's lines in plan: line i runs from corner i to the next one."""
    corners = corners_of(room)
    return [(corners[i - 1], corners[i]) for i in range(1, len(corners))] + [(corners[-1], corners[0])]


def is_stuff(number):
    """Whether a number names a stuff."""
    return 0 <= number <= LARGEST_STUFF


def is_length_right(room):
    """Whether a row has its three numbers ahead and three a corner, of as many corners as may be."""
    return len(room) % 3 == 0 and LEAST_CORNERS <= (len(room) - HEAD) // 3 <= MOST_CORNERS


def is_head_right(room):
    """Whether the height and the stuffs of floor and ceiling are within their bounds."""
    return 1 <= room[0] <= LARGEST_LENGTH and is_stuff(room[1]) and is_stuff(room[2])


def is_corner_right(x, y, stuff):
    """Whether a corner's numbers are within their bounds."""
    return 0 <= x <= LARGEST_LENGTH and 0 <= y <= LARGEST_LENGTH and is_stuff(stuff)


def is_direction_right(line):
    """Whether a line has a length and runs along x, along y, or both by as much."""
    dx = abs(line[1][0] - line[0][0])
    dy = abs(line[1][1] - line[0][1])
    if dx == 0 and dy == 0:
        return False
    return dx == 0 or dy == 0 or dx == dy


def wrong_corner(room):
    """The first corner with a number out of its bounds, or None."""
    for k in range(HEAD, len(room), 3):
        if not is_corner_right(room[k], room[k + 1], room[k + 2]):
            return (k - HEAD) // 3
    return None


def wrong_direction(lines):
    """The first line without length or in none of the eight directions, or None."""
    for i, line in enumerate(lines):
        if not is_direction_right(line):
            return i
    return None


def straight_corner(lines):
    """The first line that goes on straight, or straight back, in the next one, or None."""
    for i, line in enumerate(lines):
        following = lines[(i + 1) % len(lines)]
        if side(line[0], line[1], following[1]) == 0:
            return i
    return None


def meets_far_line(lines, i):
    """Whether line i has a point in common with a line that is not its neighbour."""
    a = lines[i][0]
    b = lines[i][1]
    for step in range(2, len(lines) - 1):
        far = lines[(i + step) % len(lines)]
        if lines_meet(a, b, far[0], far[1]):
            return True
    return False


def crossed_line(lines):
    """The first line that has a point in common with one that is not its neighbour, or None."""
    for i in range(len(lines)):
        if meets_far_line(lines, i):
            return i
    return None


def is_room_left(lines):
    """Whether walking round along the lines has what they hold to the left."""
    # Twice the area within the lines, which is below 0 if they are walked the other way round.
    return sum([a[0] * b[1] - b[0] * a[1] for a, b in lines]) > 0


def lines_fault(lines):
    """The first of the rules 4 to 7 that the lines break, with its wall, or None."""
    wall = wrong_direction(lines)
    if wall is not None:
        return (4, wall)
    wall = straight_corner(lines)
    if wall is not None:
        return (5, wall)
    wall = crossed_line(lines)
    if wall is not None:
        return (6, wall)
    if not is_room_left(lines):
        return (7, 0)
    return None


def room_fault(room):
    """The first rule that a room's list breaks, with its wall, or None."""
    if not is_length_right(room):
        return (1, 0)
    if not is_head_right(room):
        return (2, 0)
    wall = wrong_corner(room)
    if wall is not None:
        return (3, wall)
    return lines_fault(lines_of(room))


def is_within(p, lines):
    """Whether a point is in plan within the lines, on none of them."""
    rounds = 0
    for a, b in lines:
        if lines_meet(p, p, a, b):
            return False
        # A line counts with its lower end, without its upper one, so that a corner counts once.
        if a[1] <= p[1] < b[1] and side(a, b, p) > 0:
            rounds += 1
        if b[1] <= p[1] < a[1] and side(a, b, p) < 0:
            rounds -= 1
    return rounds != 0


def is_inside(p, height, lines):
    """Whether a point is strictly inside the room of that height over these lines."""
    return 0 < p[2] < height and is_within(p, lines)


def is_clear(p, q, lines):
    """Whether all points strictly between two points that are inside are inside too."""
    # Both ends are strictly within, in height too: the way leaves only through a side wall, or touches one.
    for a, b in lines:
        if lines_meet(p, q, a, b):
            return False
    return True
