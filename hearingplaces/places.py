"""The calls: what is told of the places of a grid, and of rows of points."""

from hearingplaces.books import book_fault, gain, level_of
from hearingplaces.choices import fewest, first_missed
from hearingplaces.paths import paths_to, rows_of_walls, stuffs_of, walls_of, whole_point
from hearingplaces.rooms import is_clear, is_inside, lines_of, room_fault

MOST_PLACES_A_SIDE = 16
MOST_TURNS = 4
LARGEST_BAND = 3
MOST_PLACES = 8
MOST_EARS = 8
MOST_EARS_TO_COVER = 16


def is_grid_right(nx, ny):
    """Whether a grid has as many places each way as it may have."""
    return 1 <= nx <= MOST_PLACES_A_SIDE and 1 <= ny <= MOST_PLACES_A_SIDE


def grid_places(x, y, z, dx, dy, nx, ny):
    """A grid's places in the order of their numbers."""
    return [(x + k % nx * dx, y + k // nx * dy, z) for k in range(nx * ny)]


def are_points_right(row, least, largest):
    """Whether a row has three numbers a point, of as many points as may be."""
    return len(row) % 3 == 0 and least <= len(row) // 3 <= largest


def points_of(row):
    """A row's points in the order of their numbers."""
    return [(row[k], row[k + 1], row[k + 2]) for k in range(0, len(row), 3)]


def refusal(s, is_right, room, book):
    """A call's refusal, or None; is_right: whether all else is within its bounds; s and book are None without."""
    fault = room_fault(room)
    if fault is not None:
        return [-5, fault[0], fault[1]]
    if book is not None:
        wrong = book_fault(book)
        if wrong is not None:
            return [-6, wrong]
    if not is_right:
        return [-1]
    if s is not None and not is_inside(s, room[0], lines_of(room)):
        return [-3]
    return None


def clear_from(s, places, room):
    """The numbers of the places that are clear from s, both inside."""
    lines = lines_of(room)
    if not is_inside(s, room[0], lines):
        return []
    numbers = []
    for number, place in enumerate(places):
        if is_inside(place, room[0], lines) and is_clear(s, place, lines):
            numbers.append(number)
    return numbers


def paths_over(s, places, most, room):
    """Of each place its paths from s with at most most turns, None if it isn't inside."""
    lines = lines_of(room)
    walls = walls_of(room)
    rows = rows_of_walls(whole_point(s), walls, most)
    return [paths_to(place, rows, walls) if is_inside(place, room[0], lines) else None for place in places]


def energy_of(paths, band, stuffs, book):
    """The energy that paths bring in a band."""
    energy = 0
    for row, square in paths:
        energy += gain([stuffs[wall] for wall in row], square, band, book) ** 2
    return energy


def energies_over(s, places, most, band, room, book):
    """Of each place its energy from s, 0 where one of the two isn't inside."""
    if not is_inside(s, room[0], lines_of(room)):
        return [0] * len(places)
    stuffs = stuffs_of(room)
    return [0 if paths is None else energy_of(paths, band, stuffs, book) for paths in paths_over(s, places, most, room)]


def heard(sx, sy, sz, x, y, z, dx, dy, nx, ny, room):
    """0 and the numbers of the grid's places that are heard straight from s, rising; or a refusal."""
    s = (sx, sy, sz)
    refused = refusal(s, is_grid_right(nx, ny), room, None)
    if refused is not None:
        return refused
    return [0] + clear_from(s, grid_places(x, y, z, dx, dy, nx, ny), room)


def ways(sx, sy, sz, x, y, z, dx, dy, nx, ny, most, room):
    """0 and of each of the grid's places how many paths lead there from s, -1 if it isn't inside; or a refusal."""
    s = (sx, sy, sz)
    refused = refusal(s, is_grid_right(nx, ny) and most <= MOST_TURNS, room, None)
    if refused is not None:
        return refused
    places = grid_places(x, y, z, dx, dy, nx, ny)
    return [0] + [-1 if paths is None else len(paths) for paths in paths_over(s, places, most, room)]


def level(sx, sy, sz, x, y, z, dx, dy, nx, ny, most, band, room, book):
    """0 and of each of the grid's places its level in a band, -100,000 if it isn't inside; or a refusal."""
    s = (sx, sy, sz)
    is_right = is_grid_right(nx, ny) and most <= MOST_TURNS and band <= LARGEST_BAND
    refused = refusal(s, is_right, room, book)
    if refused is not None:
        return refused
    energies = energies_over(s, grid_places(x, y, z, dx, dy, nx, ny), most, band, room, book)
    return [0] + [level_of(energy) for energy in energies]


def best(most, band, room, book, places, ears):
    """0, the first place whose worst energy is the greatest, its worst ear and that energy; or a refusal."""
    are_rows_right = are_points_right(places, 1, MOST_PLACES) and are_points_right(ears, 1, MOST_EARS)
    refused = refusal(None, are_rows_right and most <= MOST_TURNS and band <= LARGEST_BAND, room, book)
    if refused is not None:
        return refused
    told = None
    for number, place in enumerate(points_of(places)):
        energies = energies_over(place, points_of(ears), most, band, room, book)
        worst = min(energies)
        if told is None or worst > told[3]:
            told = [0, number, energies.index(worst), worst]
    return told


def cover(room, places, ears):
    """0 and the numbers of the fewest places that cover all ears; -2 and the first ear not covered; or a refusal."""
    is_right = are_points_right(places, 0, MOST_PLACES) and are_points_right(ears, 1, MOST_EARS_TO_COVER)
    refused = refusal(None, is_right, room, None)
    if refused is not None:
        return refused
    listeners = points_of(ears)
    covered = [clear_from(place, listeners, room) for place in points_of(places)]
    chosen = fewest(covered, len(listeners))
    if chosen is None:
        return [-2, first_missed(list(range(len(covered))), covered, len(listeners))]
    return [0] + chosen
