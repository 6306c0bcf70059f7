"""ways, by answers worked out by hand; of a box by the grid of its mirrored boxes."""

import contextlib
import io
import itertools
import time
import unittest

from hearingplaces.paths import paths_to, rows_of_walls, walls_of, whole_point
from hearingplaces.places import heard, ways
from mirrored_boxes import box_paths
from rooms_for_tests import BOX, COMB, ELL, OCTAGON, STUMP, TRIANGLE, WEDGE, Watched, make_room

HUGE = 10 ** 40
HUNDRED = make_room(100, [(0, 0), (100, 0), (100, 100), (0, 100)])


def count(s, place, most, room):
    """How many ways lead to one place, asked as a grid of one."""
    answer = ways(*s, *place, 0, 0, 1, 1, most, room)
    if len(answer) != 2 or answer[0] != 0:
        raise AssertionError(answer)
    return answer[1]


def counts(s, place, room, up_to=4):
    return [count(s, place, most, room) for most in range(up_to + 1)]


def rows(s, place, most, room):
    """The walls of the paths that are counted."""
    walls = walls_of(room)
    return [row for row, square in paths_to(place, rows_of_walls(whole_point(s), walls, most), walls)]


def box_count(s, e, most, sizes):
    return len(box_paths(s, e, most, sizes))


class Boxes(unittest.TestCase):
    def test_every_number_of_turns(self):
        self.assertEqual(counts((31, 47, 23), (67, 19, 59), HUNDRED), [1, 7, 25, 63, 129])

    def test_every_place_of_a_grid(self):
        self.assertEqual(ways(31, 47, 23, 67, 19, 59, 2, 5, 3, 2, 2, HUNDRED), [0] + [25] * 6)

    def test_beside_the_mirrored_boxes(self):
        room = make_room(6, [(0, 0), (8, 0), (8, 7), (0, 7)])
        points = [(1, 1, 1), (5, 3, 4), (6, 2, 5), (4, 4, 3), (7, 6, 2), (4, 2, 3)]
        for s in points:
            for e in points:
                wanted = [box_count(s, e, most, (8, 7, 6)) for most in range(5)]
                self.assertEqual(counts(s, e, room), wanted, (s, e))

    def test_a_box_that_does_not_stand_at_zero(self):
        room = make_room(6, [(13, 12), (13, 19), (5, 19), (5, 12)])
        for s, e in (((1, 1, 1), (5, 3, 4)), ((6, 2, 5), (7, 6, 2)), ((4, 4, 3), (4, 4, 3))):
            wanted = [box_count(s, e, most, (8, 7, 6)) for most in range(5)]
            moved = [(p[0] + 5, p[1] + 12, p[2]) for p in (s, e)]
            self.assertEqual(counts(*moved, room), wanted, (s, e))

    def test_largest_box(self):
        room = make_room(4095, [(0, 0), (4095, 0), (4095, 4095), (0, 4095)])
        for s, e in (((1, 2, 3), (4094, 4091, 4089)), ((1, 1, 1), (4094, 4094, 4094))):
            wanted = [box_count(s, e, most, (4095, 4095, 4095)) for most in range(5)]
            self.assertEqual(counts(s, e, room), wanted)

    def test_walls_of_the_paths(self):
        found = rows((31, 47, 23), (67, 19, 59), 4, HUNDRED)
        self.assertEqual(found[:7], [(), (0,), (1,), (2,), (3,), (4,), (5,)])
        self.assertEqual(len(found), len(set(found)))
        for row in ((4, 5), (5, 4), (0, 2), (4, 5, 4), (5, 4, 5), (0, 2, 0), (1, 3, 1, 3), (4, 5, 4, 5)):
            self.assertIn(row, found)
        for row in found:
            self.assertTrue(all(a != b for a, b in zip(row, row[1:])), row)
        # Of walls along other axes each order that leads to one mirrored point stands for one path at most.
        for pair in itertools.combinations(range(6), 2):
            both = pair in ((0, 2), (1, 3), (4, 5))
            self.assertEqual((pair in found) + (pair[::-1] in found), 2 if both else 1, pair)


class SlantedWalls(unittest.TestCase):
    def test_octagon(self):
        # From (4, 4) to (5, 5) each of the ten walls has its turn; (7.5, 1.5) is the one in wall 1, for example.
        self.assertEqual(rows((4, 4, 5), (5, 5, 5), 1, OCTAGON), [()] + [(wall,) for wall in range(10)])
        self.assertEqual(counts((4, 4, 5), (5, 5, 5), OCTAGON, 1), [1, 11])

    def test_octagon_from_near_a_slanted_wall(self):
        # From (2, 2) to (1, 4): by wall 3 the turn is (47/7, 58/7), by wall 6 (0, 10/3), by wall 7 (1, 2). The other
        # ones are missed: wall 0 at (5/3, 0), 1 at (5.2, -0.8), 2 at (9, 44/15), 4 at (17/12, 9), 5 at (-2/3, 16/3).
        self.assertEqual(rows((2, 2, 5), (1, 4, 5), 1, OCTAGON), [(), (3,), (6,), (7,), (8,), (9,)])

    def test_triangle(self):
        self.assertEqual(rows((1, 1, 5), (1, 2, 5), 1, TRIANGLE), [(), (0,), (1,), (2,), (3,), (4,)])
        # By the slanted wall at (4.6, 3.4), then by y = 0 at (7/3, 0).
        self.assertIn((1, 0), rows((1, 1, 5), (1, 2, 5), 2, TRIANGLE))

    def test_there_and_back_on_a_slant(self):
        # From (2, 2) straight on to the slanted wall at (4, 4) and back; by y = 0 and by x = 0 likewise.
        self.assertEqual(counts((2, 2, 5), (2, 2, 5), TRIANGLE, 1), [1, 6])

    def test_between_slanted_walls_turns_are_whole_or_not(self):
        diamond = make_room(10, [(4, 0), (8, 4), (4, 8), (0, 4)])
        self.assertEqual(counts((4, 3, 5), (4, 4, 5), diamond, 1), [1, 7])
        self.assertEqual(count((4, 4, 5), (4, 4, 5), 2, diamond), 13)


class RoomsNotConvex(unittest.TestCase):
    def test_cut_off_by_a_corner(self):
        # Straight, by the floor and by the ceiling the corner (4, 4) is touched; by wall 0 it goes over (5, 0), by
        # wall 5 over (0, 5); by wall 1 over (8, 3) and by wall 4 over (3, 8) a wall is in between.
        self.assertEqual(rows((6, 2, 5), (2, 6, 5), 1, ELL), [(0,), (5,)])
        self.assertEqual(counts((6, 2, 5), (2, 6, 5), ELL, 1), [0, 2])

    def test_a_leg_ahead_of_a_turn_or_behind_it_is_cut_off(self):
        # By wall 1 over (8, 5/4) to (1, 3) it's clear. From (7, 1) to (3, 7) by wall 1 over (8, 2) the leg behind the
        # turn is cut off, by wall 4 over (3.5, 8) the one ahead of it.
        self.assertIn((1,), rows((7, 1, 5), (1, 3, 5), 1, ELL))
        self.assertNotIn((1,), rows((7, 1, 5), (3, 7, 5), 1, ELL))
        self.assertNotIn((4,), rows((7, 1, 5), (3, 7, 5), 1, ELL))

    def test_round_the_corner_by_two_walls(self):
        # The one way from (7, 3) to (3, 7) goes over (4, 0) and (0, 4).
        self.assertEqual(rows((7, 3, 5), (3, 7, 5), 2, ELL), [(0, 5)])
        self.assertEqual(counts((7, 3, 5), (3, 7, 5), ELL, 2), [0, 0, 1])

    def test_all_ways_by_two_walls(self):
        # Over (4, 0) and (0, 4); by wall 0 at a quarter of the way or wall 5 at three quarters, floor or ceiling at
        # half of it; over (16/3, 4) and (4, 0), and the same with x and y changed about. By the walls 0 and 4 and by
        # the walls 1 and 5 the leg in between touches the corner (4, 4); 0 and 1, 4 and 5 would meet in a corner.
        self.assertEqual(rows((6, 2, 5), (2, 6, 5), 2, ELL), [
            (0,), (5,), (0, 5), (0, 6), (0, 7), (2, 0), (5, 3), (6, 5), (7, 5)])
        self.assertEqual(count((6, 2, 5), (2, 6, 5), 2, ELL), 9)

    def test_wedge(self):
        # From (2, 6) to (10, 6) straight on is cut off; by y = 0 over (6, 0) the point of the wedge isn't reached.
        self.assertEqual(rows((2, 6, 5), (10, 6, 5), 1, WEDGE), [(0,)])

    def test_two_walls_in_one_plane(self):
        # The walls 0 and 4 of the stump's room lie in y = 0: no path turns at one and then at the other.
        found = rows((1, 5, 5), (6, 5, 5), 4, STUMP)
        self.assertTrue(any(0 in row for row in found) and any(4 in row for row in found))
        for row in found:
            self.assertFalse(any({a, b} == {0, 4} for a, b in zip(row, row[1:])), row)

    def test_comb(self):
        # There and back in the ground below tooth 8: the ground's long wall, its two ends, the tooth's end.
        self.assertEqual(rows((33, 1, 5), (33, 1, 5), 1, COMB), [(), (0,), (1,), (30,), (63,), (64,), (65,)])
        self.assertEqual(COMB[3 + 3 * 30:3 + 3 * 32], [34, 10, 0, 32, 10, 0])


class TurnsOnEdges(unittest.TestCase):
    def test_on_a_corner(self):
        # (5, 3) and (6, 2) lie on one line with the corner (8, 0), and with (0, 8): neither order is a path.
        self.assertEqual(count((5, 3, 4), (6, 2, 5), 2, BOX), 23)
        found = rows((5, 3, 4), (6, 2, 5), 2, BOX)
        for row in ((0, 1), (1, 0), (2, 3), (3, 2)):
            self.assertNotIn(row, found)
        self.assertEqual(count((5, 3, 4), (6, 1, 5), 2, BOX), 25)

    def test_on_the_edge_with_the_floor(self):
        self.assertEqual(count((5, 4, 3), (6, 3, 2), 2, BOX), 24)
        found = rows((5, 4, 3), (6, 3, 2), 2, BOX)
        self.assertNotIn((1, 4), found)
        self.assertNotIn((4, 1), found)

    def test_on_the_edge_with_the_ceiling(self):
        self.assertEqual(count((5, 4, 7), (6, 3, 8), 2, BOX), 24)
        found = rows((5, 4, 7), (6, 3, 8), 2, BOX)
        self.assertNotIn((1, 5), found)
        self.assertNotIn((5, 1), found)

    def test_on_the_end_of_a_wall(self):
        # By x = 4 the turn would be the corner (4, 4), by x = 8 the corner (8, 4).
        self.assertEqual(rows((2, 3, 5), (2, 5, 5), 1, ELL), [(), (0,), (4,), (5,), (6,), (7,)])
        # Two further up both x = 4 and the straight way are free; two further down x = 4 is missed.
        self.assertIn((3,), rows((2, 4, 5), (2, 6, 5), 1, ELL))
        self.assertNotIn((3,), rows((2, 2, 5), (2, 4, 5), 1, ELL))

    def test_on_the_end_of_a_slanted_wall(self):
        # Wall 2 of the wedge runs from (12, 10) to (6, 4), its end. There the turns from (8, 3) to (7, 2) and from
        # (7, 3) to itself would be.
        self.assertNotIn((2,), rows((8, 3, 5), (7, 2, 5), 1, WEDGE))
        self.assertNotIn((2,), rows((7, 3, 5), (7, 3, 5), 1, WEDGE))
        self.assertIn((2,), rows((9, 3, 5), (7, 2, 5), 1, WEDGE))
        self.assertIn((2,), rows((8, 3, 5), (8, 3, 5), 1, WEDGE))
        # Beyond its end: x + y would be 118/12 there, less than 10.
        self.assertNotIn((2,), rows((10, 1, 5), (8, 1, 5), 1, WEDGE))

    def test_leg_that_touches_a_corner(self):
        # By y = 0 over (6, 0) from (7, 2) to (3, 6) the leg behind the turn runs through (4, 4).
        self.assertNotIn((0,), rows((7, 2, 5), (3, 6, 5), 1, ELL))
        self.assertNotIn((0,), rows((3, 6, 5), (7, 2, 5), 1, ELL))
        self.assertIn((0,), rows((7, 2, 5), (2, 6, 5), 1, ELL))

    def test_leg_along_a_walls_line(self):
        # At y = 3 every way along x runs along the stump's top, by the floor, by x = 0 and x = 8 too.
        self.assertEqual(rows((1, 3, 5), (7, 3, 5), 1, STUMP), [(6,)])
        self.assertEqual(rows((1, 4, 5), (7, 4, 5), 1, STUMP), [(), (2,), (5,), (6,), (7,), (8,), (9,)])

    def test_leg_along_a_slanted_walls_line(self):
        room = make_room(10, [(0, 0), (8, 0), (8, 4), (6, 4), (4, 6), (4, 8), (0, 8)])
        self.assertEqual(rows((7, 3, 5), (3, 7, 5), 0, room), [])
        for row in ((7,), (8,), (3,)):
            self.assertNotIn(row, rows((7, 3, 5), (3, 7, 5), 1, room))

    def test_turn_that_is_not_strictly_between(self):
        # (1, 4) lies in the plane y = 4 of wall 2, (1, 5) behind it: no turn there, from neither side.
        for s, e in (((1, 4, 5), (6, 2, 5)), ((1, 5, 5), (6, 2, 5)), ((1, 4, 5), (2, 4, 5)), ((1, 5, 5), (2, 6, 5))):
            self.assertNotIn((2,), rows(s, e, 1, ELL))
            self.assertNotIn((2,), rows(e, s, 1, ELL))
        self.assertIn((2,), rows((5, 1, 5), (7, 2, 5), 1, ELL))

    def test_turn_on_floor_or_ceiling_outside(self):
        # Halfway between (7, 3) and (3, 7) there's no floor: (5, 5) is outside.
        self.assertEqual(rows((7, 3, 1), (3, 7, 1), 1, ELL), [])

    def test_walls_of_length_one(self):
        # From (1, 1) to (2, 1) wall 0 is met in its middle, (1.5, 0); from (1, 1) to (1, 1) in its end.
        small = make_room(10, [(1, 0), (2, 0), (3, 1), (3, 2), (2, 3), (1, 3), (0, 2), (0, 1)])
        self.assertIn((0,), rows((1, 1, 5), (2, 1, 5), 1, small))
        self.assertNotIn((0,), rows((1, 1, 5), (1, 1, 5), 1, small))
        # On the slanted wall 7 from (0, 1) to (1, 0) its middle is met.
        self.assertIn((7,), rows((1, 1, 5), (1, 1, 5), 1, small))

    def test_turns_need_not_be_whole(self):
        # Thirds and fifths of the way are told apart from edges.
        low = make_room(2, [(0, 0), (3, 0), (3, 3), (0, 3)])
        for most in range(5):
            self.assertEqual(count((1, 1, 1), (2, 1, 1), most, low), box_count((1, 1, 1), (2, 1, 1), most, (3, 3, 2)))
            self.assertEqual(count((1, 1, 1), (2, 2, 1), most, low), box_count((1, 1, 1), (2, 2, 1), most, (3, 3, 2)))


class PlacesOfTheirOwn(unittest.TestCase):
    def test_one_point(self):
        # There and back by each wall; by two or three walls at once only where they aren't met in an edge.
        self.assertEqual(counts((31, 47, 23), (31, 47, 23), HUNDRED), [1, 7, 13, 43, 61])
        self.assertEqual(counts((6, 2, 5), (6, 2, 5), ELL, 1), [1, 7])

    def test_straight_above_and_below(self):
        for s, e in (((3, 4, 3), (3, 4, 5)), ((3, 4, 5), (3, 4, 3))):
            # In the L-shaped room the walls 1 and 3 would be met in the corners (8, 4) and (4, 4).
            self.assertEqual(rows(s, e, 1, ELL), [(), (0,), (4,), (5,), (6,), (7,)])
            self.assertEqual(counts(s, e, BOX, 2), [1, 7, 21])
            self.assertIn((4, 5), rows(s, e, 2, BOX))
            self.assertIn((5, 4), rows(s, e, 2, BOX))

    def test_places_that_are_not_inside(self):
        self.assertEqual(ways(4, 4, 5, -1, 4, 5, 1, 0, 11, 1, 0, BOX), [0, -1, -1] + [1] * 7 + [-1, -1])
        self.assertEqual(ways(4, 4, 5, 4, -1, 5, 0, 1, 1, 11, 0, BOX), [0, -1, -1] + [1] * 7 + [-1, -1])
        for z, wanted in ((-HUGE, -1), (-1, -1), (0, -1), (1, 1), (9, 1), (10, -1), (11, -1), (HUGE, -1)):
            self.assertEqual(ways(4, 4, 5, 3, 3, z, 0, 0, 2, 1, 0, BOX), [0, wanted, wanted], z)
        for place in ((4, 4, 5), (5, 4, 5), (4, 5, 5), (6, 6, 5)):
            self.assertEqual(count((2, 2, 5), place, 2, ELL), -1, place)
        for place in ((7, 1, 5), (8, 2, 5), (1, 2, 5), (0, 0, 5)):
            self.assertEqual(count((4, 4, 5), place, 1, OCTAGON), -1, place)

    def test_a_place_inside_without_any_way(self):
        self.assertEqual(ways(7, 3, 5, 3, 7, 5, 1, 0, 2, 1, 1, ELL), [0, 0, -1])

    def test_places_are_numbered_along_x_first(self):
        self.assertEqual(ways(6, 2, 5, 1, 5, 5, 1, 1, 4, 2, 0, ELL), [0, 1, 1, 0, -1, 1, 0, 0, -1])
        self.assertEqual(ways(6, 2, 5, 3, 6, 5, -1, -1, 3, 2, 0, ELL), [0, 0, 0, 1, 0, 1, 1])


class Promises(unittest.TestCase):
    def points(self, room, step):
        found = [(x, y, z) for x in range(1, 12, step) for y in range(1, 10, step) for z in (2, 7)]
        return [p for p in found if heard(*p, *p, 0, 0, 1, 1, room) == [0, 0]]

    def test_without_turns_a_way_is_heard_straight(self):
        for room in (BOX, ELL, OCTAGON, WEDGE, STUMP, TRIANGLE, COMB):
            for s in self.points(room, 2):
                straight = heard(*s, -1, -1, 5, 1, 1, 14, 12, room)[1:]
                answer = ways(*s, -1, -1, 5, 1, 1, 14, 12, 0, room)
                self.assertEqual([k for k, number in enumerate(answer[1:]) if number == 1], straight)
                self.assertTrue(set(answer) <= {-1, 0, 1})

    def test_more_turns_no_fewer_ways(self):
        for room, up_to in ((BOX, 4), (ELL, 3), (WEDGE, 3), (STUMP, 3), (TRIANGLE, 4)):
            for s in self.points(room, 4):
                for e in self.points(room, 3):
                    told = counts(s, e, room, up_to)
                    self.assertEqual(told, sorted(told), (s, e))

    def test_speaker_and_place_changed_about(self):
        for room, most in ((ELL, 3), (WEDGE, 3), (STUMP, 2), (OCTAGON, 2), (TRIANGLE, 4)):
            points = self.points(room, 3)
            for s, e in itertools.combinations(points, 2):
                self.assertEqual(count(s, e, most, room), count(e, s, most, room), (s, e))
                self.assertEqual(sorted(row[::-1] for row in rows(s, e, 2, room)), sorted(rows(e, s, 2, room)))


class Refusals(unittest.TestCase):
    def test_grid_out_of_its_bounds(self):
        for nx, ny in ((0, 1), (1, 0), (0, 0), (17, 1), (1, 17), (HUGE, 1), (1, HUGE), (HUGE, HUGE), (0, HUGE)):
            self.assertEqual(ways(4, 4, 5, 1, 1, 1, 1, 1, nx, ny, 0, BOX), [-1], (nx, ny))
        self.assertEqual(len(ways(4, 4, 5, 1, 1, 1, 1, 1, 16, 16, 0, BOX)), 257)

    def test_too_many_turns(self):
        for most in (5, 6, HUGE):
            self.assertEqual(ways(4, 4, 5, 1, 1, 1, 1, 1, 1, 1, most, BOX), [-1], most)
            self.assertEqual(ways(4, 4, 5, 1, 1, 1, 1, 1, 16, 16, most, COMB), [-1], most)
        self.assertEqual(ways(4, 4, 5, 4, 4, 5, 1, 1, 1, 1, 4, BOX)[0], 0)

    def test_s_not_inside(self):
        for s in ((0, 4, 5), (8, 4, 5), (4, 0, 5), (4, 8, 5), (0, 0, 5), (4, 4, 0), (4, 4, 10), (-1, 4, 5), (4, 4, 11),
                  (HUGE, 4, 5), (4, HUGE, 5), (4, 4, HUGE), (-HUGE, 4, 5), (4, -HUGE, 5), (4, 4, -HUGE)):
            self.assertEqual(ways(*s, 4, 4, 5, 1, 1, 2, 2, 2, BOX), [-3], s)
        for s in ((4, 4, 5), (5, 5, 5), (6, 4, 5), (4, 6, 5)):
            self.assertEqual(ways(*s, 2, 2, 5, 1, 1, 2, 2, 1, ELL), [-3], s)

    def test_each_rule_of_the_room(self):
        for rule, wall, room in (
                (1, 0, []), (1, 0, BOX[:-1]), (1, 0, [0] * 300), (2, 0, [0] + BOX[1:]), (2, 0, [10, 8] + BOX[2:]),
                (3, 3, BOX[:-1] + [8]), (3, 0, BOX[:3] + [-HUGE] + BOX[4:]),
                (4, 2, make_room(10, [(0, 0), (8, 0), (8, 9), (0, 8)])),
                (5, 1, make_room(10, [(0, 0), (8, 0), (8, 4), (8, 8), (0, 8)])),
                (6, 0, make_room(10, [(0, 0), (8, 8), (8, 0), (0, 8)])),
                (7, 0, make_room(10, [(0, 0), (0, 8), (8, 8), (8, 0)]))):
            self.assertEqual(ways(4, 4, 5, 1, 1, 1, 1, 1, 1, 1, 1, room), [-5, rule, wall])
            self.assertEqual(ways(-1, 4, 5, 1, 1, 1, 1, 1, 17, 0, HUGE, room), [-5, rule, wall])

    def test_numbers_come_ahead_of_s(self):
        for nx, ny, most in ((0, 1, 0), (1, 17, 0), (1, 1, 5), (HUGE, HUGE, HUGE)):
            self.assertEqual(ways(0, 4, 5, 1, 1, 1, 1, 1, nx, ny, most, BOX), [-1])
            self.assertEqual(ways(HUGE, -HUGE, HUGE, 1, 1, 1, 1, 1, nx, ny, most, BOX), [-1])
        self.assertEqual(ways(0, 4, 5, 1, 1, 1, 1, 1, 1, 1, 4, BOX), [-3])


class LargeInputs(unittest.TestCase):
    def test_places_and_steps_far_off(self):
        for x, y, z in ((HUGE, 4, 5), (4, HUGE, 5), (4, 4, HUGE), (-HUGE, 4, 5), (4, -HUGE, 5), (4, 4, -HUGE)):
            self.assertEqual(ways(4, 4, 5, x, y, z, 1, 1, 2, 2, 3, BOX), [0, -1, -1, -1, -1])
        self.assertEqual(ways(4, 4, 5, 3, 2, 4, HUGE, -HUGE, 2, 2, 0, BOX), [0, 1, -1, -1, -1])
        self.assertEqual(ways(4, 4, 5, 3 - HUGE, 2, 4, HUGE, 1, 3, 1, 1, BOX), [0, -1, 7, -1])

    def test_as_many_looks_as_may_be(self):
        diamond = make_room(4095, [(2000, 0), (4000, 2000), (2000, 4000), (0, 2000)])
        half = make_room(4095, [(0, 0), (4095, 0), (0, 4095)])
        corners = [(COMB[k], COMB[k + 1]) for k in range(3, len(COMB), 3)]
        comb48 = make_room(10, [(0, 0), (46, 0)] + corners[18:])
        comb24 = make_room(10, [(0, 0), (22, 0)] + corners[42:])
        for nx, ny, most, room, place, steps in (
                (8, 4, 4, half, (17, 23, 39), (300, 200)), (2, 1, 4, OCTAGON, (4, 4, 3), (1, 0)),
                (5, 3, 4, diamond, (1700, 1800, 99), (101, 103)), (2, 2, 2, COMB, (1, 1, 5), (4, 1)),
                (4, 2, 2, comb48, (1, 1, 5), (4, 1)), (1, 1, 3, comb24, (5, 1, 7), (0, 0)),
                (16, 16, 1, COMB, (1, 1, 5), (4, 0)), (16, 16, 0, COMB, (1, 1, 5), (4, 1))):
            looks = (len(room) // 3 + 1) ** most * nx * ny
            self.assertLessEqual(looks, 20000)
            s = (place[0] + steps[0], place[1], 1)
            began = time.perf_counter()
            answer = ways(*s, *place, *steps, nx, ny, most, room)
            self.assertLess(time.perf_counter() - began, 20)
            self.assertEqual(len(answer), 1 + nx * ny)
            self.assertGreater(max(answer), 0)

    def test_twenty_thousand_looks_answer_right(self):
        half = make_room(4095, [(0, 0), (4095, 0), (0, 4095)])
        answer = ways(311, 473, 23, 17, 23, 39, 300, 200, 8, 4, 4, half)
        for k in (0, 7, 19, 31):
            place = (17 + 300 * (k % 8), 23 + 200 * (k // 8), 39)
            self.assertEqual(answer[1 + k], count(place, (311, 473, 23), 4, half))


class WhatIsKept(unittest.TestCase):
    def test_room_is_not_changed(self):
        for room in (BOX, ELL, OCTAGON, WEDGE, COMB, [], [10, 0], list(range(12)), BOX + [HUGE], BOX[:-1] + [8]):
            handed = Watched(room)
            ways(1, 5, 5, 1, 1, 5, 1, 1, 3, 3, 2 if len(room) < 50 else 1, handed)
            self.assertEqual(list(handed), list(room))

    def test_twice_the_same(self):
        calls = [(6, 2, 5, 0, 0, 5, 1, 1, 9, 9, 2, ELL), (2, 6, 5, 0, 0, 5, 1, 1, 9, 9, 1, WEDGE),
                 (4, 4, 5, 0, 0, 5, 1, 1, 0, 9, 1, BOX), (0, 4, 5, 0, 0, 5, 1, 1, 9, 9, 1, BOX),
                 (4, 4, 5, 0, 0, 5, 1, 1, 9, 9, 1, BOX[:-1])]
        first = [ways(*call) for call in calls]
        self.assertEqual([ways(*call) for call in reversed(calls)], first[::-1])

    def test_an_answer_is_the_callers_own(self):
        ways(4, 4, 5, 2, 2, 5, 1, 1, 2, 1, 0, BOX).append("changed")
        self.assertEqual(ways(4, 4, 5, 2, 2, 5, 1, 1, 2, 1, 0, BOX), [0, 1, 1])

    def test_a_room_changed_between_calls_is_looked_at_anew(self):
        room = list(BOX)
        self.assertEqual(count((4, 4, 3), (3, 2, 4), 1, room), 7)
        room[0] = 4
        self.assertEqual(count((4, 4, 3), (3, 2, 4), 1, room), -1)

    def test_answers_are_lists_of_whole_numbers(self):
        for call in ((6, 2, 5, 0, 0, 5, 1, 1, 9, 9, 2, ELL), (4, 4, 5, 0, 0, 5, 1, 1, 0, 9, 0, BOX),
                     (0, 4, 5, 0, 0, 5, 1, 1, 9, 9, 0, BOX), (4, 4, 5, 0, 0, 5, 1, 1, 9, 9, 0, BOX[:-1])):
            answer = ways(*call)
            self.assertIs(type(answer), list)
            self.assertEqual({type(number) for number in answer}, {int})

    def test_stuffs_change_no_way(self):
        stuffed = list(ELL)
        for k in [1, 2] + list(range(5, len(ELL), 3)):
            stuffed[k] = k % 8
        self.assertEqual(ways(6, 2, 5, 0, 0, 5, 1, 1, 9, 9, 2, stuffed), ways(6, 2, 5, 0, 0, 5, 1, 1, 9, 9, 2, ELL))

    def test_nothing_is_printed(self):
        printed = io.StringIO()
        with contextlib.redirect_stdout(printed), contextlib.redirect_stderr(printed):
            ways(6, 2, 5, 0, 0, 5, 1, 1, 9, 9, 1, ELL)
            ways(6, 2, 5, 0, 0, 5, 1, 1, 9, 9, 1, [])
        self.assertEqual(printed.getvalue(), "")

    def test_arguments_bear_their_names(self):
        answer = ways(sx=4, sy=4, sz=5, x=7, y=7, z=5, dx=1, dy=1, nx=2, ny=1, most=0, room=list(BOX))
        self.assertEqual(answer, [0, 1, -1])


if __name__ == "__main__":
    unittest.main()
