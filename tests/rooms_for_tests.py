"""Rooms that several tests use, rows of points, and a list that tells if anybody changes it."""


def make_room(h, corners, floor=0, ceiling=0, stuff=0):
    """A room's list from its height and its corners in plan."""
    row = [h, floor, ceiling]
    for x, y in corners:
        row += [x, y, stuff]
    return row


def flat(points):
    """A row of points as the program takes it."""
    return [number for point in points for number in point]


BOX = make_room(10, [(0, 0), (8, 0), (8, 8), (0, 8)])

# Two arms, along x and along y; corner 3 at (4, 4) juts into the room.
ELL = make_room(10, [(0, 0), (8, 0), (8, 4), (4, 4), (4, 8), (0, 8)])

OCTAGON = make_room(10, [(3, 0), (6, 0), (9, 3), (9, 6), (6, 9), (3, 9), (0, 6), (0, 3)])

# A box with a wedge cut in from above, its point at (6, 4).
WEDGE = make_room(10, [(0, 0), (12, 0), (12, 10), (6, 4), (0, 10)])

# A stump, its top from (3, 3) to (5, 3), stands in a box at y = 0.
STUMP = make_room(10, [(0, 0), (3, 0), (3, 3), (5, 3), (5, 0), (8, 0), (8, 8), (0, 8)])

TRIANGLE = make_room(10, [(0, 0), (8, 0), (0, 8)])


def comb_corners():
    """64 corners: sixteen teeth, two wide and two apart, standing on a ground two deep."""
    corners = [(0, 0), (62, 0)]
    for k in range(15, -1, -1):
        corners += [(4 * k + 2, 10), (4 * k, 10)]
        if k > 0:
            corners += [(4 * k, 2), (4 * k - 2, 2)]
    return corners


COMB = make_room(10, comb_corners())


def slotted_corners():
    """A box 18 wide with four slots, two wide, 20 deep and two apart, behind its right side, four above it."""
    corners = [(0, 0), (18, 0)]
    for k in range(4):
        corners += [(18, 4 * k + 2), (38, 4 * k + 2), (38, 4 * k + 4), (18, 4 * k + 4)]
    corners.append((18, 18))
    for k in range(3, -1, -1):
        corners += [(4 * k + 4, 18), (4 * k + 4, 38), (4 * k + 2, 38), (4 * k + 2, 18)]
    return corners + [(0, 18)]


# From deep in a slot only a strip of the box is seen: 4 k + 3 and not a whole 4 more or less, along x or y.
SLOTTED = make_room(10, slotted_corners())


class Watched(list):
    """A list that refuses every change, one that is taken back as well."""

    def refuse(self, *args, **kwargs):
        raise AssertionError("what was handed in is being changed")

    __setitem__ = __delitem__ = __iadd__ = __imul__ = refuse
    append = extend = insert = pop = remove = clear = sort = reverse = refuse
