"""Rooms, points and books by chance, made from the chance that is handed in."""

import reference
from rooms_for_tests import make_room

SHAPES = (
    [(0, 0), (12, 0), (12, 12), (0, 12)],
    [(4, 0), (9, 0), (13, 4), (13, 9), (9, 13), (4, 13), (0, 9), (0, 4)],
    [(0, 0), (14, 0), (0, 14)],
    [(6, 0), (12, 6), (6, 12), (0, 6)],
)


def bumped(chance, corners):
    """The corners with a bump, to the left or to the right, on one line; a chance that may break the room."""
    i = chance.randrange(len(corners))
    a, b = corners[i], corners[(i + 1) % len(corners)]
    length = max(abs(b[0] - a[0]), abs(b[1] - a[1]))
    if length < 3:
        return corners
    ux, uy = (b[0] - a[0]) // length, (b[1] - a[1]) // length
    first = chance.randrange(0, length - 1)
    last = chance.randrange(first + 1, length + 1)
    deep = chance.choice((-2, -1, 1, 3, 4, 5, 6, 7, 8, 9))
    at = [(a[0] + ux * t, a[1] + uy * t) for t in (first, last)]
    high = [(x - uy * deep, y + ux * deep) for x, y in at]
    return corners[:i + 1] + [at[0], high[0], high[1], at[1]] + corners[i + 1:]


def cut_off(chance, corners):
    """The corners with one of them cut off by the shortest slant, where its lines run along x and y."""
    i = chance.randrange(len(corners))
    near = []
    for other in (corners[i - 1], corners[(i + 1) % len(corners)]):
        dx, dy = other[0] - corners[i][0], other[1] - corners[i][1]
        length = max(abs(dx), abs(dy))
        near.append((corners[i][0] + dx // length, corners[i][1] + dy // length))
    return corners[:i] + near + corners[i + 1:]


def without_repeats(corners):
    """Corners without those that stand twice behind one another, and without straight ones."""
    kept = [c for k, c in enumerate(corners) if c != corners[k - 1]]
    bent = []
    for k, (x, y) in enumerate(kept):
        (px, py), (qx, qy) = kept[k - 1], kept[(k + 1) % len(kept)]
        if (x - px) * (qy - y) != (y - py) * (qx - x):
            bent.append((x, y))
    return bent


def random_room(chance):
    """A room without fault, with some bumps and slants."""
    corners = [(x + 3, y + 3) for x, y in chance.choice(SHAPES)]
    for _ in range(chance.randrange(2, 12)):
        changed = without_repeats(chance.choice((bumped, bumped, cut_off))(chance, corners))
        if reference.fault(make_room(5, changed)) is None:
            corners = changed
    first = chance.randrange(len(corners))
    return make_room(chance.choice((2, 5)), corners[first:] + corners[:first])


def random_point_inside(chance, room):
    """A whole point inside the room, found by trying."""
    while True:
        point = (chance.randrange(1, 20), chance.randrange(1, 20), chance.randrange(1, room[0]))
        if reference.inside(point, room):
            return point


def stuffed(chance, room):
    """The room with stuffs by chance."""
    changed = list(room)
    for k in [1, 2] + list(range(5, len(room), 3)):
        changed[k] = chance.randrange(8)
    return changed


def random_book(chance):
    """A book in which the least and the largest parts are frequent."""
    return [chance.choice((0, 1, 2, 32767, 32768, chance.randrange(32769), chance.randrange(32769))) for _ in range(36)]
