"""The calls: what is told of the places of a grid."""

from hearingplaces.rooms import is_clear, is_inside, lines_of, room_fault

MOST_PLACES_A_SIDE = 16


def is_grid_right(nx, ny):
    """Whether a grid has as many places each way as it may have."""
    return 1 <= nx <= MOST_PLACES_A_SIDE and 1 <= ny <= MOST_PLACES_A_SIDE


def grid_places(x, y, z, dx, dy, nx, ny):
    """A grid's places in the order of their numbers."""
    return [(x + k % nx * dx, y + k // nx * dy, z) for k in range(nx * ny)]


def heard(sx, sy, sz, x, y, z, dx, dy, nx, ny, room):
    """0 and the numbers of the grid's places that are heard straight from s, rising; or a refusal."""
    fault = room_fault(room)
    if fault is not None:
        return [-5, fault[0], fault[1]]
    if not is_grid_right(nx, ny):
        return [-1]
    height = room[0]
    lines = lines_of(room)
    s = (sx, sy, sz)
    if not is_inside(s, height, lines):
        return [-3]
    answer = [0]
    for number, place in enumerate(grid_places(x, y, z, dx, dy, nx, ny)):
        if is_inside(place, height, lines) and is_clear(s, place, lines):
            answer.append(number)
    return answer
