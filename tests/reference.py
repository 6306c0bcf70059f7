"""heard once more, slowly and from the words of the document, to compare the program with.

Nothing here is drawn from the program, and the ways of finding out differ from the program's: lines are cut by
fractions, a way is looked at piece by piece between its cuts.
"""

from fractions import Fraction


def corners_and_lines(room):
    corners = [(room[k], room[k + 1]) for k in range(3, len(room), 3)]
    return corners, list(zip(corners, corners[1:] + corners[:1]))


def cuts(a, b, c, d):
    """The t in 0 .. 1 at which a + t (b - a) comes to, or leaves, the closed line from c to d; a is not b."""
    ux, uy = b[0] - a[0], b[1] - a[1]
    vx, vy = d[0] - c[0], d[1] - c[1]
    wx, wy = c[0] - a[0], c[1] - a[1]
    det = ux * vy - uy * vx
    if det != 0:
        t = Fraction(wx * vy - wy * vx, det)
        r = Fraction(wx * uy - wy * ux, det)
        return [t] if 0 <= t <= 1 and 0 <= r <= 1 else []
    if ux * wy - uy * wx != 0:
        return []
    size = ux * ux + uy * uy
    ends = sorted(Fraction((e[0] - a[0]) * ux + (e[1] - a[1]) * uy, size) for e in (c, d))
    low, high = max(ends[0], Fraction(0)), min(ends[1], Fraction(1))
    return [low, high] if low <= high else []


def on_line(p, a, b):
    along = (p[0] - a[0]) * (b[0] - a[0]) + (p[1] - a[1]) * (b[1] - a[1])
    across = (p[0] - a[0]) * (b[1] - a[1]) - (p[1] - a[1]) * (b[0] - a[0])
    return across == 0 and 0 <= along <= (b[0] - a[0]) ** 2 + (b[1] - a[1]) ** 2


def inside(p, room):
    """Strictly inside: on no line, and a beam straight up in plan crosses an odd number of lines."""
    lines = corners_and_lines(room)[1]
    if not 0 < p[2] < room[0] or any(on_line(p, a, b) for a, b in lines):
        return False
    crossed = 0
    for a, b in lines:
        if min(a[0], b[0]) <= p[0] < max(a[0], b[0]):
            height = a[1] + Fraction((p[0] - a[0]) * (b[1] - a[1]), b[0] - a[0])
            crossed += height > p[1]
    return crossed % 2 == 1


def clear(p, q, room):
    """All points strictly between p and q are inside: the cuts, and a point of each piece between cuts."""
    if p[:2] == q[:2]:
        return p == q or inside((p[0], p[1], Fraction(p[2] + q[2], 2)), room)
    at = {Fraction(0), Fraction(1)}
    for a, b in corners_and_lines(room)[1]:
        at.update(cuts(p, q, a, b))
    at = sorted(at)
    looked_at = at[1:-1] + [(low + high) / 2 for low, high in zip(at, at[1:])]
    return all(inside(tuple(f + t * (g - f) for f, g in zip(p, q)), room) for t in looked_at)


def direction(a, b):
    """One of the eight directions as two of -1, 0, 1; None if the line has none of them."""
    dx, dy = b[0] - a[0], b[1] - a[1]
    longest = max(abs(dx), abs(dy))
    if longest == 0 or abs(dx) not in (0, longest) or abs(dy) not in (0, longest):
        return None
    return dx // longest, dy // longest


def is_left(lines):
    """A little step to the left of a line's middle comes to lie within, for a room that is to the left."""
    a, b = lines[0]
    step = direction(a, b)
    tiny = Fraction(1, 100000)
    middle = (Fraction(a[0] + b[0], 2) - step[1] * tiny, Fraction(a[1] + b[1], 2) + step[0] * tiny, 1)
    flat = [2, 0, 0]
    for corner, _ in lines:
        flat += [corner[0], corner[1], 0]
    return inside(middle, flat)


def fault(room):
    """(rule, wall) of the first fault, or None."""
    if len(room) < 3 or (len(room) - 3) % 3 != 0 or (len(room) - 3) // 3 not in range(3, 65):
        return 1, 0
    if room[0] not in range(1, 4096) or room[1] not in range(8) or room[2] not in range(8):
        return 2, 0
    corners, lines = corners_and_lines(room)
    n = len(corners)
    for i in range(n):
        x, y, stuff = room[3 + 3 * i:6 + 3 * i]
        if x not in range(4096) or y not in range(4096) or stuff not in range(8):
            return 3, i
    ways = [direction(a, b) for a, b in lines]
    if None in ways:
        return 4, ways.index(None)
    for i in range(n):
        other = ways[(i + 1) % n]
        if other in (ways[i], (-ways[i][0], -ways[i][1])):
            return 5, i
    for i in range(n):
        for j in range(n):
            if (i - j) % n not in (0, 1, n - 1) and cuts(*lines[i], *lines[j]):
                return 6, i
    return None if is_left(lines) else (7, 0)


def heard(sx, sy, sz, x, y, z, dx, dy, nx, ny, room):
    broken = fault(room)
    if broken is not None:
        return [-5, broken[0], broken[1]]
    if nx not in range(1, 17) or ny not in range(1, 17):
        return [-1]
    s = (sx, sy, sz)
    if not inside(s, room):
        return [-3]
    answer = [0]
    for j in range(ny):
        for i in range(nx):
            place = (x + i * dx, y + j * dy, z)
            if inside(place, room) and clear(s, place, room):
                answer.append(i + nx * j)
    return answer
