"""heard, by answers worked out by hand."""

import contextlib
import io
import unittest

from hearingplaces.places import heard
from rooms_for_tests import BOX, COMB, ELL, OCTAGON, WEDGE, Watched, make_room

HUGE = 10 ** 40


def hears(s, place, room):
    """Whether one place, asked as a grid of one, is heard straight from s."""
    answer = heard(*s, *place, 0, 0, 1, 1, room)
    if answer not in ([0], [0, 0]):
        raise AssertionError(answer)
    return answer == [0, 0]


def picture_numbers(rows):
    """The numbers of the places marked # in a picture whose lowest row is written last."""
    marks = "".join(reversed(rows))
    return [k for k, mark in enumerate(marks) if mark == "#"]


class OrdinaryRooms(unittest.TestCase):
    def picture(self, s, z, room, rows):
        """The picture shows whole x from -1 on to the right, whole y from -1 on upward."""
        answer = heard(*s, -1, -1, z, 1, 1, len(rows[0]), len(rows), room)
        self.assertEqual(answer, [0] + picture_numbers(rows))

    def test_box_hears_all_that_is_inside(self):
        self.picture((4, 4, 5), 3, BOX, [
            "...........",
            "...........",
            "..#######..",
            "..#######..",
            "..#######..",
            "..#######..",
            "..#######..",
            "..#######..",
            "..#######..",
            "...........",
            "...........",
        ])

    def test_slanted_walls(self):
        self.picture((1, 4, 5), 5, OCTAGON, [
            "............",
            "............",
            "....####....",
            "...######...",
            "..########..",
            "..########..",
            "..########..",
            "..########..",
            "...######...",
            "....####....",
            "............",
            "............",
        ])

    def test_hidden_behind_a_corner(self):
        # From (6, 2): (2, 6) is touched by the corner (4, 4), (3, 6) and (3, 5) lie behind it.
        self.picture((6, 2, 5), 5, ELL, [
            "...........",
            "...........",
            "...........",
            "..#........",
            "..##.......",
            "..###......",
            "..#######..",
            "..#######..",
            "..#######..",
            "...........",
            "...........",
        ])

    def test_hidden_behind_a_slanted_corner(self):
        # From (2, 6) every way to the right half has to pass below (6, 4), so below (8, 3) and (10, 2).
        self.picture((2, 6, 1), 9, WEDGE, [
            "..............",
            "..............",
            "..............",
            "..#...........",
            "..##..........",
            "..###.........",
            "..####........",
            "..#####.......",
            "..#######.....",
            "..#########...",
            "..###########.",
            "..............",
            "..............",
        ])

    def test_far_places_seen_through_an_opening(self):
        # From the middle of tooth 0 down into the ground, not into another tooth.
        self.assertTrue(hears((1, 5, 5), (1, 9, 5), COMB))
        self.assertFalse(hears((1, 5, 5), (3, 1, 5), COMB))
        self.assertTrue(hears((1, 3, 5), (2, 1, 5), COMB))
        self.assertFalse(hears((1, 5, 5), (5, 5, 5), COMB))
        self.assertTrue(hears((1, 1, 5), (61, 1, 5), COMB))
        self.assertTrue(hears((1, 1, 5), (61, 2, 5), COMB))
        self.assertFalse(hears((1, 1, 5), (61, 3, 5), COMB))

    def test_corner_at_the_end_of_the_row_hides_too(self):
        # The L-shaped room with its row begun so that the line from the last corner to corner 0 is the one met.
        turned = make_room(10, [(4, 4), (4, 8), (0, 8), (0, 0), (8, 0), (8, 4)])
        self.assertFalse(hears((7, 3, 5), (3, 7, 5), turned))
        self.assertEqual(heard(6, 2, 5, -1, -1, 5, 1, 1, 11, 11, turned),
                         heard(6, 2, 5, -1, -1, 5, 1, 1, 11, 11, ELL))
        other = make_room(10, [(4, 8), (0, 8), (0, 0), (8, 0), (8, 4), (4, 4)])
        self.assertFalse(hears((5, 3, 5), (3, 7, 5), other))

    def test_speaker_and_place_changed_about(self):
        for room in (ELL, WEDGE):
            points = [(px, py, 5) for px in range(1, 12) for py in range(1, 10)
                      if heard(px, py, 5, 1, 1, 1, 1, 1, 1, 1, room) != [-3]]
            for p in points:
                for q in points:
                    self.assertEqual(hears(p, q, room), hears(q, p, room), (p, q))


class NamedEdges(unittest.TestCase):
    def test_way_that_touches_a_corner(self):
        self.assertFalse(hears((6, 2, 5), (2, 6, 5), ELL))
        self.assertFalse(hears((2, 6, 5), (6, 2, 5), ELL))
        self.assertTrue(hears((6, 2, 5), (2, 5, 5), ELL))
        self.assertFalse(hears((3, 4, 5), (9, 4, 5), WEDGE))
        self.assertTrue(hears((3, 3, 5), (9, 3, 5), WEDGE))

    def test_way_along_a_walls_line(self):
        # A stump from (3, 0) to (5, 3) stands in the room: its top lies on the way at y = 3.
        room = make_room(10, [(0, 0), (3, 0), (3, 3), (5, 3), (5, 0), (8, 0), (8, 8), (0, 8)])
        self.assertFalse(hears((1, 3, 5), (7, 3, 5), room))
        self.assertTrue(hears((1, 4, 5), (7, 4, 5), room))
        self.assertFalse(hears((1, 2, 5), (7, 2, 5), room))

    def test_way_along_a_slanted_walls_line(self):
        room = make_room(10, [(0, 0), (8, 0), (8, 4), (6, 4), (4, 6), (4, 8), (0, 8)])
        self.assertFalse(hears((7, 3, 5), (3, 7, 5), room))
        self.assertFalse(hears((3, 7, 5), (7, 3, 5), room))
        self.assertTrue(hears((7, 2, 5), (3, 6, 5), room))
        self.assertTrue(hears((7, 2, 5), (2, 7, 5), room))

    def test_way_on_the_line_of_a_wall_that_it_does_not_reach(self):
        # y = 4 is the line of the wall from (8, 4) to (4, 4); the way ends ahead of it.
        self.assertTrue(hears((1, 4, 5), (3, 4, 5), ELL))

    def test_one_point(self):
        self.assertEqual(heard(4, 4, 5, 4, 4, 5, 0, 0, 1, 1, BOX), [0, 0])
        self.assertEqual(heard(1, 7, 9, 1, 7, 9, 0, 0, 2, 2, ELL), [0, 0, 1, 2, 3])

    def test_straight_above_and_below(self):
        for z in (1, 2, 8, 9):
            self.assertTrue(hears((4, 3, 5), (4, 3, z), ELL))
        for z in (0, 10, -1, 11):
            self.assertFalse(hears((4, 3, 5), (4, 3, z), ELL))

    def test_heights(self):
        for z, wanted in ((-HUGE, False), (-1, False), (0, False), (1, True), (9, True), (10, False), (HUGE, False)):
            self.assertEqual(hears((4, 4, 5), (2, 3, z), BOX), wanted, z)
            self.assertEqual(heard(4, 4, z, 2, 3, 5, 0, 0, 1, 1, BOX), [0, 0] if wanted else [-3], z)

    def test_place_on_a_line_and_on_a_corner(self):
        for place in ((0, 4), (8, 4), (4, 0), (4, 8), (0, 0), (8, 0), (8, 8), (0, 8)):
            self.assertFalse(hears((4, 4, 5), place + (5,), BOX), place)
        for place in ((4, 4), (4, 6), (6, 4), (8, 4), (4, 8)):
            self.assertFalse(hears((2, 2, 5), place + (5,), ELL), place)
        for place in ((1, 2), (2, 1), (7, 1), (8, 2), (8, 7), (7, 8), (1, 7), (0, 3)):
            self.assertFalse(hears((4, 4, 5), place + (5,), OCTAGON), place)

    def test_point_level_with_corners(self):
        # Outside, on a level with corners, so that a beam along x runs through them.
        for place in ((-1, 3), (-1, 6), (-1, 0), (10, 3), (10, 0), (-1, 9), (1, 0), (1, 9), (8, 9)):
            self.assertFalse(hears((4, 4, 5), place + (5,), OCTAGON), place)
        for place in ((-1, 4), (9, 4), (5, 8), (-1, 8), (6, 5)):
            self.assertFalse(hears((2, 2, 5), place + (5,), ELL), place)

    def test_walls_of_length_one(self):
        small = make_room(10, [(1, 0), (2, 0), (3, 1), (3, 2), (2, 3), (1, 3), (0, 2), (0, 1)])
        self.assertEqual(heard(1, 1, 5, -1, -1, 5, 1, 1, 6, 6, small), [0, 14, 15, 20, 21])
        within = [(sx, sy) for sx in range(-2, 6) for sy in range(-2, 6)
                  if heard(sx, sy, 5, 1, 1, 5, 0, 0, 1, 1, small) != [-3]]
        self.assertEqual(within, [(1, 1), (1, 2), (2, 1), (2, 2)])
        notch = make_room(10, [(0, 0), (4, 0), (4, 4), (3, 4), (3, 3), (2, 3), (2, 4), (0, 4)])
        self.assertEqual(heard(1, 2, 5, -1, -1, 5, 1, 1, 7, 7, notch), [0, 16, 17, 18, 23, 24, 25, 30])

    def test_steps_of_zero(self):
        self.assertEqual(heard(4, 4, 5, 2, 2, 5, 0, 0, 2, 3, BOX), [0, 0, 1, 2, 3, 4, 5])
        self.assertEqual(heard(4, 4, 5, 9, 2, 5, 0, 0, 2, 3, BOX), [0])
        self.assertEqual(heard(4, 4, 5, 7, 2, 5, 1, 0, 2, 2, BOX), [0, 0, 2])
        self.assertEqual(heard(4, 4, 5, 2, 7, 5, 0, 1, 2, 2, BOX), [0, 0, 1])

    def test_steps_below_zero(self):
        self.assertEqual(heard(4, 4, 5, 2, 2, 5, -1, 1, 3, 2, BOX), [0, 0, 1, 3, 4])
        self.assertEqual(heard(4, 4, 5, 2, 2, 5, 1, -1, 2, 4, BOX), [0, 0, 1, 2, 3])
        self.assertEqual(heard(4, 4, 5, 9, 9, 5, -2, -3, 2, 2, BOX), [0, 3])

    def test_places_are_numbered_along_x_first(self):
        self.assertEqual(heard(4, 4, 5, 6, 1, 5, 1, 1, 3, 2, BOX), [0, 0, 1, 3, 4])
        self.assertEqual(heard(4, 4, 5, 1, 6, 5, 1, 1, 3, 2, BOX), [0, 0, 1, 2, 3, 4, 5])
        self.assertEqual(heard(4, 4, 5, 1, 7, 5, 1, 1, 3, 2, BOX), [0, 0, 1, 2])

    def test_grids_of_one_and_of_sixteen(self):
        wide = make_room(10, [(0, 0), (40, 0), (40, 40), (0, 40)])
        self.assertEqual(heard(5, 5, 5, 1, 1, 1, 1, 1, 1, 1, wide), [0, 0])
        self.assertEqual(heard(5, 5, 5, 1, 1, 1, 1, 1, 16, 1, wide), [0] + list(range(16)))
        self.assertEqual(heard(5, 5, 5, 1, 1, 1, 1, 1, 1, 16, wide), [0] + list(range(16)))
        self.assertEqual(heard(5, 5, 5, 1, 1, 1, 1, 1, 16, 16, wide), [0] + list(range(256)))
        self.assertEqual(heard(5, 5, 5, 0, 0, 1, 1, 1, 16, 16, wide),
                         [0] + [k for k in range(256) if k % 16 > 0 and k // 16 > 0])

    def test_three_corners(self):
        room = make_room(4, [(0, 0), (4, 0), (0, 4)])
        self.assertEqual(heard(1, 1, 1, 0, 0, 2, 1, 1, 5, 5, room), [0, 6, 7, 11])

    def test_sixty_four_corners(self):
        self.assertEqual(len(COMB), 3 + 3 * 64)
        # From the ground below tooth 8: all of the ground, and the ways straight up.
        self.assertEqual(heard(33, 1, 5, 1, 1, 5, 4, 0, 16, 1, COMB), [0] + list(range(16)))
        self.assertEqual(heard(33, 1, 5, 1, 9, 5, 4, 0, 16, 1, COMB), [0, 8])
        self.assertEqual(heard(33, 1, 5, 1, 3, 5, 4, 0, 16, 1, COMB), [0, 8])

    def test_lowest_room_has_no_whole_point_inside(self):
        low = make_room(1, [(0, 0), (8, 0), (8, 8), (0, 8)])
        for z in (-1, 0, 1, 2):
            self.assertEqual(heard(4, 4, z, 4, 4, z, 0, 0, 1, 1, low), [-3])
        self.assertEqual(heard(4, 4, 1, 4, 4, 1, 0, 0, 1, 1, make_room(2, [(0, 0), (8, 0), (8, 8), (0, 8)])), [0, 0])

    def test_largest_room(self):
        room = make_room(4095, [(0, 0), (4095, 0), (4095, 4095), (0, 4095)], 7, 7, 7)
        self.assertTrue(hears((1, 1, 1), (4094, 4094, 4094), room))
        self.assertTrue(hears((4094, 1, 4094), (1, 4094, 1), room))
        for place in ((4095, 1, 1), (1, 4095, 1), (1, 1, 4095), (0, 1, 1), (1, 0, 1), (1, 1, 0), (4096, 1, 1)):
            self.assertFalse(hears((1, 1, 1), place, room), place)
        half = make_room(4095, [(0, 0), (4095, 0), (0, 4095)])
        self.assertTrue(hears((1, 1, 1), (2047, 2047, 4094), half))
        self.assertFalse(hears((1, 1, 1), (2048, 2047, 4094), half))

    def test_stuffs_change_nothing_that_is_heard(self):
        plain = heard(6, 2, 5, 0, 0, 5, 1, 1, 9, 9, ELL)
        stuffed = list(ELL)
        for k in [1, 2] + list(range(5, len(ELL), 3)):
            stuffed[k] = k % 8
        self.assertEqual(heard(6, 2, 5, 0, 0, 5, 1, 1, 9, 9, stuffed), plain)


class Refusals(unittest.TestCase):
    def test_grid_out_of_its_bounds(self):
        for nx, ny in ((0, 1), (1, 0), (0, 0), (17, 1), (1, 17), (HUGE, 1), (1, HUGE), (HUGE, HUGE), (0, HUGE)):
            self.assertEqual(heard(4, 4, 5, 1, 1, 1, 1, 1, nx, ny, BOX), [-1], (nx, ny))

    def test_s_not_inside(self):
        for s in ((0, 4, 5), (8, 4, 5), (4, 0, 5), (4, 8, 5), (0, 0, 5), (8, 8, 5), (4, 4, 0), (4, 4, 10),
                  (-1, 4, 5), (9, 4, 5), (4, -1, 5), (4, 9, 5), (4, 4, -1), (4, 4, 11),
                  (HUGE, 4, 5), (4, HUGE, 5), (4, 4, HUGE), (-HUGE, 4, 5), (4, -HUGE, 5), (4, 4, -HUGE)):
            self.assertEqual(heard(*s, 4, 4, 5, 1, 1, 2, 2, BOX), [-3], s)
        for s in ((4, 4, 5), (5, 5, 5), (6, 4, 5), (4, 6, 5)):
            self.assertEqual(heard(*s, 2, 2, 5, 1, 1, 2, 2, ELL), [-3], s)

    def test_a_wrong_room_comes_first(self):
        self.assertEqual(heard(4, 4, 5, 1, 1, 1, 1, 1, 0, 17, []), [-5, 1, 0])
        self.assertEqual(heard(99, 4, 5, 1, 1, 1, 1, 1, 0, 1, make_room(0, [(0, 0), (8, 0), (8, 8), (0, 8)])),
                         [-5, 2, 0])
        self.assertEqual(heard(99, 4, 5, 1, 1, 1, 1, 1, 1, 1, make_room(10, [(0, 0), (8, 0), (8, 9), (0, 8)])),
                         [-5, 4, 2])

    def test_the_grid_comes_ahead_of_s(self):
        self.assertEqual(heard(0, 4, 5, 1, 1, 1, 1, 1, 0, 1, BOX), [-1])
        self.assertEqual(heard(HUGE, HUGE, HUGE, 1, 1, 1, 1, 1, 1, 17, BOX), [-1])
        self.assertEqual(heard(0, 4, 5, 1, 1, 1, 1, 1, 1, 1, BOX), [-3])


class LargeNumbers(unittest.TestCase):
    def test_places_far_off(self):
        for x, y, z in ((HUGE, 4, 5), (4, HUGE, 5), (4, 4, HUGE), (-HUGE, 4, 5), (4, -HUGE, 5), (4, 4, -HUGE)):
            self.assertEqual(heard(4, 4, 5, x, y, z, 1, 1, 2, 2, BOX), [0])

    def test_steps_far_off(self):
        self.assertEqual(heard(4, 4, 5, 4, 4, 5, HUGE, HUGE, 16, 16, BOX), [0, 0])
        self.assertEqual(heard(4, 4, 5, 4, 4, 5, -HUGE, 1, 2, 4, BOX), [0, 0, 2, 4, 6])
        self.assertEqual(heard(4, 4, 5, 4, 4, 5, 1, -HUGE, 4, 2, BOX), [0, 0, 1, 2, 3])

    def test_steps_that_come_back_from_far_off(self):
        self.assertEqual(heard(4, 4, 5, 4 - HUGE, 2, 5, HUGE, 1, 3, 2, BOX), [0, 1, 4])
        self.assertEqual(heard(4, 4, 5, HUGE, HUGE, 5, 3 - HUGE, 2 - HUGE, 2, 2, BOX), [0, 3])


class WhatIsKept(unittest.TestCase):
    def test_room_is_not_changed(self):
        for room in (BOX, ELL, OCTAGON, WEDGE, COMB, [], [10, 0], list(range(12)), BOX + [HUGE], BOX[:-1] + [8]):
            handed = Watched(room)
            heard(1, 5, 5, 0, 0, 5, 1, 1, 12, 12, handed)
            self.assertEqual(list(handed), list(room))

    def test_twice_the_same(self):
        calls = [(6, 2, 5, 0, 0, 5, 1, 1, 9, 9, ELL), (2, 6, 5, 0, 0, 5, 1, 1, 12, 12, WEDGE),
                 (4, 4, 5, 0, 0, 5, 1, 1, 0, 9, BOX), (0, 4, 5, 0, 0, 5, 1, 1, 9, 9, BOX),
                 (4, 4, 5, 0, 0, 5, 1, 1, 9, 9, BOX[:-1])]
        first = [heard(*call) for call in calls]
        self.assertEqual([heard(*call) for call in reversed(calls)], first[::-1])

    def test_an_answer_is_the_callers_own(self):
        answer = heard(4, 4, 5, 2, 2, 5, 1, 1, 2, 2, BOX)
        answer.append("changed")
        self.assertEqual(heard(4, 4, 5, 2, 2, 5, 1, 1, 2, 2, BOX), [0, 0, 1, 2, 3])
        refusal = heard(4, 4, 5, 2, 2, 5, 1, 1, 2, 2, [])
        refusal.append("changed")
        self.assertEqual(heard(4, 4, 5, 2, 2, 5, 1, 1, 2, 2, []), [-5, 1, 0])

    def test_a_room_changed_between_calls_is_looked_at_anew(self):
        room = list(BOX)
        self.assertEqual(heard(4, 4, 5, 7, 7, 5, 0, 0, 1, 1, room), [0, 0])
        room[0] = 5
        self.assertEqual(heard(4, 4, 5, 7, 7, 5, 0, 0, 1, 1, room), [-3])
        room[0] = 0
        self.assertEqual(heard(4, 4, 5, 7, 7, 5, 0, 0, 1, 1, room), [-5, 2, 0])

    def test_answers_are_lists_of_whole_numbers(self):
        for call in ((6, 2, 5, 0, 0, 5, 1, 1, 9, 9, ELL), (4, 4, 5, 0, 0, 5, 1, 1, 0, 9, BOX),
                     (0, 4, 5, 0, 0, 5, 1, 1, 9, 9, BOX), (4, 4, 5, 0, 0, 5, 1, 1, 9, 9, BOX[:-1])):
            answer = heard(*call)
            self.assertIs(type(answer), list)
            self.assertEqual({type(number) for number in answer}, {int})

    def test_nothing_is_printed(self):
        printed = io.StringIO()
        with contextlib.redirect_stdout(printed), contextlib.redirect_stderr(printed):
            heard(6, 2, 5, 0, 0, 5, 1, 1, 9, 9, ELL)
            heard(6, 2, 5, 0, 0, 5, 1, 1, 9, 9, [])
        self.assertEqual(printed.getvalue(), "")

    def test_arguments_bear_their_names(self):
        self.assertEqual(heard(sx=4, sy=4, sz=5, x=7, y=7, z=5, dx=1, dy=1, nx=2, ny=2, room=list(BOX)), [0, 0])


if __name__ == "__main__":
    unittest.main()
