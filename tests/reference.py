"""The calls once more, slowly and from the words of the document, to compare the program with.

Nothing here is drawn from the program, and the ways of finding out differ from the program's: lines are cut by
fractions, a way is looked at piece by piece between its cuts; a path is followed forward from s toward e mirrored
back, and is then held to each word of what a path is; of a gain and a level each possible number is tried.
"""

import itertools
from decimal import ROUND_FLOOR, Context, Decimal
from fractions import Fraction


def corners_and_lines(room):
    corners = [(room[k], room[k + 1]) for k in range(3, len(room), 3)]
    return corners, list(zip(corners, corners[1:] + corners[:1]))


def cuts(a, b, c, d):
    """The t in 0 .. 1 at which a + t (b - a) comes to, or leaves, the closed line from c to d; a is not b."""
    ux, uy = b[0] - a[0], b[1] - a[1]
    vx, vy = d[0] - c[0], d[1] - c[1]
    wx, wy = c[0] - a[0], c[1] - a[1]
    det = ux * vy - uy * vx
    if det != 0:
        t = Fraction(wx * vy - wy * vx, det)
        r = Fraction(wx * uy - wy * ux, det)
        return [t] if 0 <= t <= 1 and 0 <= r <= 1 else []
    if ux * wy - uy * wx != 0:
        return []
    size = ux * ux + uy * uy
    ends = sorted(Fraction((e[0] - a[0]) * ux + (e[1] - a[1]) * uy, size) for e in (c, d))
    low, high = max(ends[0], Fraction(0)), min(ends[1], Fraction(1))
    return [low, high] if low <= high else []


def on_line(p, a, b):
    along = (p[0] - a[0]) * (b[0] - a[0]) + (p[1] - a[1]) * (b[1] - a[1])
    across = (p[0] - a[0]) * (b[1] - a[1]) - (p[1] - a[1]) * (b[0] - a[0])
    return across == 0 and 0 <= along <= (b[0] - a[0]) ** 2 + (b[1] - a[1]) ** 2


def inside(p, room):
    """Strictly inside: on no line, and a beam straight up in plan crosses an odd number of lines."""
    lines = corners_and_lines(room)[1]
    if not 0 < p[2] < room[0] or any(on_line(p, a, b) for a, b in lines):
        return False
    crossed = 0
    for a, b in lines:
        if min(a[0], b[0]) <= p[0] < max(a[0], b[0]):
            height = a[1] + Fraction((p[0] - a[0]) * (b[1] - a[1]), b[0] - a[0])
            crossed += height > p[1]
    return crossed % 2 == 1


def clear(p, q, room):
    """All points strictly between p and q are inside: the cuts, and a point of each piece between cuts."""
    if p[:2] == q[:2]:
        return p == q or inside((p[0], p[1], Fraction(p[2] + q[2], 2)), room)
    at = {Fraction(0), Fraction(1)}
    for a, b in corners_and_lines(room)[1]:
        at.update(cuts(p, q, a, b))
    at = sorted(at)
    looked_at = at[1:-1] + [(low + high) / 2 for low, high in zip(at, at[1:])]
    return all(inside(tuple(f + t * (g - f) for f, g in zip(p, q)), room) for t in looked_at)


def direction(a, b):
    """One of the eight directions as two of -1, 0, 1; None if the line has none of them."""
    dx, dy = b[0] - a[0], b[1] - a[1]
    longest = max(abs(dx), abs(dy))
    if longest == 0 or abs(dx) not in (0, longest) or abs(dy) not in (0, longest):
        return None
    return dx // longest, dy // longest


def is_left(lines):
    """A little step to the left of a line's middle comes to lie within, for a room that is to the left."""
    a, b = lines[0]
    step = direction(a, b)
    tiny = Fraction(1, 100000)
    middle = (Fraction(a[0] + b[0], 2) - step[1] * tiny, Fraction(a[1] + b[1], 2) + step[0] * tiny, 1)
    flat = [2, 0, 0]
    for corner, _ in lines:
        flat += [corner[0], corner[1], 0]
    return inside(middle, flat)


def fault(room):
    """(rule, wall) of the first fault, or None."""
    if len(room) < 3 or (len(room) - 3) % 3 != 0 or (len(room) - 3) // 3 not in range(3, 65):
        return 1, 0
    if room[0] not in range(1, 4096) or room[1] not in range(8) or room[2] not in range(8):
        return 2, 0
    corners, lines = corners_and_lines(room)
    n = len(corners)
    for i in range(n):
        x, y, stuff = room[3 + 3 * i:6 + 3 * i]
        if x not in range(4096) or y not in range(4096) or stuff not in range(8):
            return 3, i
    ways = [direction(a, b) for a, b in lines]
    if None in ways:
        return 4, ways.index(None)
    for i in range(n):
        other = ways[(i + 1) % n]
        if other in (ways[i], (-ways[i][0], -ways[i][1])):
            return 5, i
    for i in range(n):
        for j in range(n):
            if (i - j) % n not in (0, 1, n - 1) and cuts(*lines[i], *lines[j]):
                return 6, i
    return None if is_left(lines) else (7, 0)


def refusal(s, sides, room, book=None, most=0, band=0, rows=()):
    """rows: of each row of points its numbers, and the least and the most points that it may have."""
    broken = fault(room)
    if broken is not None:
        return [-5, broken[0], broken[1]]
    if book is not None and len(book) != 36:
        return [-6, len(book)]
    if book is not None and max(book) > 32768:
        return [-6, [part > 32768 for part in book].index(True)]
    if any(side not in range(1, 17) for side in sides) or most not in range(5) or band not in range(4):
        return [-1]
    if any(len(row) not in range(3 * least, 3 * largest + 1, 3) for row, least, largest in rows):
        return [-1]
    return None if s is None or inside(s, room) else [-3]


def grid(x, y, z, dx, dy, nx, ny):
    return [(x + i * dx, y + j * dy, z) for j in range(ny) for i in range(nx)]


def heard(sx, sy, sz, x, y, z, dx, dy, nx, ny, room):
    s = (sx, sy, sz)
    refused = refusal(s, (nx, ny), room)
    if refused is not None:
        return refused
    places = grid(x, y, z, dx, dy, nx, ny)
    return [0] + [k for k, e in enumerate(places) if inside(e, room) and clear(s, e, room)]


def mirror(p, wall, room):
    """A point mirrored in a wall, by its foot on the wall's plane."""
    lines = corners_and_lines(room)[1]
    if wall == len(lines):
        return p[0], p[1], -p[2]
    if wall == len(lines) + 1:
        return p[0], p[1], 2 * room[0] - p[2]
    a, b = lines[wall]
    ux, uy = b[0] - a[0], b[1] - a[1]
    t = Fraction((p[0] - a[0]) * ux + (p[1] - a[1]) * uy, ux * ux + uy * uy)
    return 2 * (a[0] + t * ux) - p[0], 2 * (a[1] + t * uy) - p[1], p[2]


def in_open_wall(p, wall, room):
    lines = corners_and_lines(room)[1]
    if wall >= len(lines):
        return p[2] == (0 if wall == len(lines) else room[0]) and inside((p[0], p[1], Fraction(room[0], 2)), room)
    return 0 < p[2] < room[0] and on_line(p, *lines[wall]) and tuple(p[:2]) not in lines[wall]


def meet_plane(p, q, wall, room):
    """The one point that the endless line through p and q has in a wall's plane, or None."""
    lines = corners_and_lines(room)[1]
    if wall >= len(lines):
        height, slope = (0 if wall == len(lines) else room[0]) - p[2], q[2] - p[2]
    else:
        (ax, ay), (bx, by) = lines[wall]
        height = (ax - p[0]) * (by - ay) - (ay - p[1]) * (bx - ax)
        slope = (q[0] - p[0]) * (by - ay) - (q[1] - p[1]) * (bx - ax)
    if slope == 0:
        return None
    t = Fraction(height) / slope
    return tuple(f + t * (g - f) for f, g in zip(p, q))


def strictly_between(p, q, r):
    """Whether q lies on the straight line from p to r, and is neither."""
    if p == r:
        return False
    axis = next(k for k in range(3) if p[k] != r[k])
    t = Fraction(q[axis] - p[axis]) / (r[axis] - p[axis])
    return 0 < t < 1 and all(q[k] == p[k] + t * (r[k] - p[k]) for k in range(3))


def is_path(s, e, row, room):
    """Whether the walls of a row, one after another, make a path."""
    aim = e
    for wall in reversed(row):
        aim = mirror(aim, wall, room)
    points = [s]
    for wall in row:
        turn = meet_plane(points[-1], aim, wall, room)
        if turn is None or not in_open_wall(turn, wall, room):
            return False
        points.append(turn)
        aim = mirror(aim, wall, room)
    points.append(e)
    for k, wall in enumerate(row):
        if not strictly_between(mirror(points[k], wall, room), points[k + 1], points[k + 2]):
            return False
    return all(clear(p, q, room) for p, q in zip(points, points[1:]))


def paths(s, e, most, room):
    """The rows of walls of all paths with at most most turns."""
    walls = range(len(room) // 3 + 1)
    return [row for turns in range(most + 1) for row in itertools.product(walls, repeat=turns)
            if is_path(s, e, row, room)]


def ways(sx, sy, sz, x, y, z, dx, dy, nx, ny, most, room):
    s = (sx, sy, sz)
    refused = refusal(s, (nx, ny), room, None, most)
    if refused is not None:
        return refused
    places = grid(x, y, z, dx, dy, nx, ny)
    return [0] + [len(paths(s, e, most, room)) if inside(e, room) else -1 for e in places]


def square_length(s, e, row, room):
    for wall in row:
        s = mirror(s, wall, room)
    square = sum((f - g) ** 2 for f, g in zip(s, e))
    if square != int(square):
        raise AssertionError("the square of a length is not whole")
    return int(square)


def gain(stuffs, square, band, book):
    """Halved again and again, the bounds close round the greatest g that is at most 1/2 above 2^32 P / L."""
    square = max(square, 1)
    steps = max(m for m in range(100) if (1024 * m) ** 2 <= square)
    part = Fraction(book[32 + band], 32768) ** steps
    for stuff in stuffs:
        part *= Fraction(book[4 * stuff + band], 32768)
    wanted = (2 ** 32 * part) ** 2 / square
    low, high = 0, 2 ** 33
    while high - low > 1:
        middle = (low + high) // 2
        if (middle - Fraction(1, 2)) ** 2 <= wanted:
            low = middle
        else:
            high = middle
    return low


def level_of(energy):
    if energy == 0:
        return -100000
    exact = Context(prec=80)
    number = exact.multiply(exact.log10(exact.divide(Decimal(energy), Decimal(2 ** 48))), Decimal(10))
    return int(number.to_integral_value(rounding=ROUND_FLOOR))


def energy(s, e, most, band, room, book):
    """0 where one of the two points isn't inside."""
    if not (inside(s, room) and inside(e, room)):
        return 0
    stuffs = room[5::3] + room[1:3]
    gains = [gain([stuffs[wall] for wall in row], square_length(s, e, row, room), band, book)
             for row in paths(s, e, most, room)]
    return sum(g ** 2 for g in gains)


def level(sx, sy, sz, x, y, z, dx, dy, nx, ny, most, band, room, book):
    s = (sx, sy, sz)
    refused = refusal(s, (nx, ny), room, book, most, band)
    if refused is not None:
        return refused
    return [0] + [level_of(energy(s, e, most, band, room, book)) for e in grid(x, y, z, dx, dy, nx, ny)]


def points(row):
    return list(zip(row[::3], row[1::3], row[2::3]))


def best(most, band, room, book, places, ears):
    """Sorted by energy, then by number, the first ear of a place is its worst; of these the greatest is told."""
    refused = refusal(None, (), room, book, most, band, ((places, 1, 8), (ears, 1, 8)))
    if refused is not None:
        return refused
    found = []
    for number, place in enumerate(points(places)):
        pairs = sorted((energy(place, ear, most, band, room, book), k) for k, ear in enumerate(points(ears)))
        found.append((-pairs[0][0], number, pairs[0][1]))
    least, number, ear = sorted(found)[0]
    return [0, number, ear, -least]


def cover(room, places, ears):
    """Of all sets of places that cover each ear the least, by how many they are, then by their numbers."""
    refused = refusal(None, (), room, rows=((places, 0, 8), (ears, 1, 16)))
    if refused is not None:
        return refused
    speakers, listeners = points(places), points(ears)
    sees = {(p, e): inside(p, room) and inside(e, room) and clear(p, e, room) for p in speakers for e in listeners}
    for k, ear in enumerate(listeners):
        if not any(sees[place, ear] for place in speakers):
            return [-2, k]
    found = []
    for bits in itertools.product((False, True), repeat=len(speakers)):
        numbers = [k for k, bit in enumerate(bits) if bit]
        if all(any(sees[speakers[k], ear] for k in numbers) for ear in listeners):
            found.append((len(numbers), numbers))
    return [0] + min(found)[1]
