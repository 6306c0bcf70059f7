"""Paths from a speaker to a place, by walls at which they turn.

A point here is a tuple (x, y, z, w) of whole numbers with w above 0 and stands for (x / w, y / w, z / w): turns
needn't be whole. A plane is a tuple (a, b, c, d); it holds the points with a x + b y + c z + d w = 0, and the sum is
above 0 on the side on which the wall has the room. A wall is a tuple of its plane and its line in plan; floor and
ceiling have None as their line.
"""

from hearingplaces.rooms import HEAD, lines_meet, lines_of


def whole_point(p):
    """A whole point (x, y, z) with its w."""
    return (p[0], p[1], p[2], 1)


def sign(number):
    """1 above 0, -1 below, else 0."""
    if number > 0:
        return 1
    return -1 if number < 0 else 0


def plane_of_line(line):
    """The plane of the wall over a line, which has the room to its left."""
    a = line[0]
    ux = sign(line[1][0] - a[0])
    uy = sign(line[1][1] - a[1])
    return (-uy, ux, 0, uy * a[0] - ux * a[1])


def walls_of(room):
    """A room's walls in the order of their numbers, the floor and the ceiling last."""
    sides = [(plane_of_line(line), line) for line in lines_of(room)]
    return sides + [((0, 0, 1, 0), None), ((0, 0, -1, room[0]), None)]


def stuffs_of(room):
    """The stuffs of a room's walls in the order of their numbers."""
    return [room[k] for k in range(HEAD + 2, len(room), 3)] + [room[1], room[2]]


def depth(plane, p):
    """Above 0 where a point lies on the room's side of a plane, 0 on it, below 0 behind it."""
    return plane[0] * p[0] + plane[1] * p[1] + plane[2] * p[2] + plane[3] * p[3]


def mirrored(plane, p):
    """A point mirrored in a plane."""
    # The sum of the squares is 1, or 2 at a slanted wall: the division leaves no rest.
    across = 2 * depth(plane, p) // (plane[0] ** 2 + plane[1] ** 2 + plane[2] ** 2)
    return (p[0] - across * plane[0], p[1] - across * plane[1], p[2] - across * plane[2], p[3])


def crossing(plane, p, q):
    """Where the way from p, behind a plane, to q, ahead of it, goes through the plane."""
    behind = -depth(plane, p)
    ahead = depth(plane, q)
    return tuple([ahead * f + behind * g for f, g in zip(p, q)])


def rows_of_walls(s, walls, most):
    """The rows of at most most walls that a path from s may turn at, each with the points that s is mirrored to."""
    newest = [((), (s,))]
    rows = list(newest)
    for turn in range(most):
        longer = []
        for row, images in newest:
            for number, wall in enumerate(walls):
                # A path comes to a wall from the room's side, on the straight line from the mirrored point.
                if depth(wall[0], images[-1]) > 0:
                    longer.append((row + (number,), images + (mirrored(wall[0], images[-1]),)))
        rows.extend(longer)
        newest = longer
    return rows


def is_between_corners(line, p):
    """Whether a point on a line's way lies strictly between its two ends."""
    ux = line[1][0] - line[0][0]
    uy = line[1][1] - line[0][1]
    along = ux * (p[0] - line[0][0] * p[3]) + uy * (p[1] - line[0][1] * p[3])
    return 0 < along < (ux * ux + uy * uy) * p[3]


def may_turn_at(wall, p, walls):
    """Whether a point on a wall's plane is in the open wall, as far as a path's legs don't tell it anyway."""
    line = wall[1]
    # A clear leg that comes from within the lines ends within them: floor and ceiling need no look of their own.
    if line is None:
        return True
    return depth(walls[-2][0], p) > 0 and depth(walls[-1][0], p) > 0 and is_between_corners(line, p)


def points_by(row, images, e, walls):
    """The points of a path from s by a row of walls to e, both counted; None where a turn finds no point."""
    points = [e]
    for k in range(len(row) - 1, -1, -1):
        wall = walls[row[k]]
        if depth(wall[0], points[-1]) <= 0:
            return None
        turn = crossing(wall[0], images[k + 1], points[-1])
        if not may_turn_at(wall, turn, walls):
            return None
        points.append(turn)
    points.append(images[0])
    return list(reversed(points))


def is_leg_clear(p, q, walls, own):
    """Whether all points between two points of a path are inside; own: the walls at which they turn."""
    start = (p[0] * q[3], p[1] * q[3])
    end = (q[0] * p[3], q[1] * p[3])
    scale = p[3] * q[3]
    for number, wall in enumerate(walls):
        line = wall[1]
        # From a turn a leg leads away from its own wall, so it meets that one nowhere else.
        if line is None or number in own:
            continue
        if lines_meet(start, end, (line[0][0] * scale, line[0][1] * scale), (line[1][0] * scale, line[1][1] * scale)):
            return False
    return True


def is_path(row, images, e, walls):
    """Whether there is a path from s by a row of walls to e."""
    points = points_by(row, images, e, walls)
    if points is None:
        return False
    for k in range(len(row) + 1):
        # Point k turns at wall k - 1 of the row; s and e turn nowhere.
        if not is_leg_clear(points[k], points[k + 1], walls, row[max(k - 1, 0):k + 1]):
            return False
    return True


def square_length(image, e):
    """The square of a path's length: it is as long as the straight way from the last mirrored point of s."""
    return (image[0] - e[0]) ** 2 + (image[1] - e[1]) ** 2 + (image[2] - e[2]) ** 2


def paths_to(place, rows, walls):
    """The paths to a place that is inside, each as its walls and the square of its length."""
    e = whole_point(place)
    return [(row, square_length(images[-1], e)) for row, images in rows if is_path(row, images, e, walls)]
