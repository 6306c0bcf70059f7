"""A box's paths by the grid of its mirrored boxes, a way that the program doesn't go."""

import itertools
from fractions import Fraction


def mirrored(end, size, times):
    """An end within 0 .. size, mirrored as often as told: above 0 first at size, below 0 first at 0."""
    return times * size + (end if times % 2 == 0 else size - end)


def axis_crossings(start, end, size, times):
    """When the straight way from start to the mirrored end crosses the walls."""
    walls = range(1, times + 1) if times > 0 else range(0, times, -1)
    return [Fraction(wall * size - start, mirrored(end, size, times) - start) for wall in walls]


def box_paths(s, e, most, sizes):
    """One for each mirrored e to which the straight way crosses no two walls at once: how often along each axis."""
    found = []
    for times in itertools.product(range(-most, most + 1), repeat=3):
        if sum(map(abs, times)) > most:
            continue
        at = [t for k in range(3) for t in axis_crossings(s[k], e[k], sizes[k], times[k])]
        if len(set(at)) == len(at):
            found.append(times)
    return found


def square_length(s, e, times, sizes):
    return sum((mirrored(e[k], sizes[k], times[k]) - s[k]) ** 2 for k in range(3))
