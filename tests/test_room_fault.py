"""A room's fault, as heard refuses it: the first rule that is broken, and its wall."""

import unittest

from hearingplaces.places import heard
from rooms_for_tests import BOX, COMB, ELL, OCTAGON, WEDGE, make_room

HUGE = 10 ** 40
OUT_OF_STUFFS = (-1, 8, HUGE, -HUGE)


class RoomFault(unittest.TestCase):
    def broken(self, rule, wall, room):
        """The room is refused so, whatever else is wrong with the call."""
        self.assertEqual(heard(1, 1, 1, 1, 1, 1, 1, 1, 1, 1, room), [-5, rule, wall], room)
        self.assertEqual(heard(-1, -HUGE, HUGE, HUGE, 1, 1, 1, 1, 0, HUGE, room), [-5, rule, wall], room)

    def sound(self, room):
        """The room has no fault: the grid is refused, which is looked at behind the room."""
        self.assertEqual(heard(1, 1, 1, 1, 1, 1, 1, 1, 0, 1, room), [-1], room)

    def put(self, room, place, number):
        changed = list(room)
        changed[place] = number
        return changed


class RuleOne(RoomFault):
    def test_short_rows(self):
        for length in range(12):
            self.broken(1, 0, ([10, 0, 0] + BOX[3:])[:length])
        self.sound([10, 0, 0, 0, 0, 0, 8, 0, 0, 0, 8, 0])

    def test_not_three_a_corner(self):
        for more in ([0], [0, 0], [HUGE]):
            self.broken(1, 0, BOX + more)
        self.broken(1, 0, BOX[:-1])
        self.broken(1, 0, COMB + [0])
        self.broken(1, 0, COMB[:-1])

    def test_two_and_sixty_five_corners(self):
        self.broken(1, 0, make_room(10, [(0, 0), (8, 0)]))
        self.sound(COMB)
        self.broken(1, 0, COMB + [0, 5, 0])
        self.broken(1, 0, [10, 0, 0] + [1, 1, 1] * 65)
        self.broken(1, 0, [0] * 300)

    def test_ahead_of_all_others(self):
        self.broken(1, 0, [0, 8, 8])
        self.broken(1, 0, [0, 8, 8] + [-1, -1, 8] * 2)
        self.broken(1, 0, [-HUGE] * 299)


class RuleTwo(RoomFault):
    def test_height(self):
        for h in (1, 2, 4094, 4095):
            self.sound(self.put(BOX, 0, h))
        for h in (0, -1, 4096, HUGE, -HUGE):
            self.broken(2, 0, self.put(BOX, 0, h))

    def test_stuffs_of_floor_and_ceiling(self):
        for place in (1, 2):
            for stuff in (0, 1, 7):
                self.sound(self.put(BOX, place, stuff))
            for stuff in OUT_OF_STUFFS:
                self.broken(2, 0, self.put(BOX, place, stuff))

    def test_ahead_of_corners(self):
        self.broken(2, 0, [0, 0, 0] + [-1, 0, 0] * 4)
        self.broken(2, 0, [10, 8, 0] + [0, 0, 9] * 4)
        self.broken(2, 0, [10, 0, 8] + [0, 0, 0] * 4)


class RuleThree(RoomFault):
    def test_each_number_of_each_corner(self):
        for room in (BOX, COMB):
            for i in range(len(room) // 3 - 1):
                for number in (-1, 4096, HUGE, -HUGE):
                    self.broken(3, i, self.put(room, 3 + 3 * i, number))
                    self.broken(3, i, self.put(room, 4 + 3 * i, number))
                for stuff in OUT_OF_STUFFS:
                    self.broken(3, i, self.put(room, 5 + 3 * i, stuff))
                for stuff in (1, 7):
                    self.sound(self.put(room, 5 + 3 * i, stuff))

    def test_ends_of_the_bounds(self):
        self.sound(make_room(4095, [(0, 0), (4095, 0), (4095, 4095), (0, 4095)], 7, 7, 7))
        self.broken(3, 1, make_room(4095, [(0, 0), (4096, 0), (4096, 4096), (0, 4096)]))
        self.broken(3, 0, make_room(4095, [(-1, 0), (4095, 0), (4095, 4095), (-1, 4095)]))

    def test_least_corner(self):
        self.broken(3, 1, self.put(self.put(BOX, 8, 8), 9, -1))
        self.broken(3, 2, self.put(self.put(BOX, 14, -1), 10, 5000))

    def test_ahead_of_lines(self):
        self.broken(3, 3, make_room(10, [(0, 0), (0, 0), (0, 0), (-1, 0)]))
        self.broken(3, 2, self.put(make_room(10, [(0, 0), (1, 2), (3, 3)]), 11, 8))


class RuleFour(RoomFault):
    def test_no_length(self):
        self.broken(4, 0, make_room(10, [(0, 0), (0, 0), (8, 0), (8, 8), (0, 8)]))
        self.broken(4, 2, make_room(10, [(0, 0), (8, 0), (8, 8), (8, 8), (0, 8)]))
        self.broken(4, 4, make_room(10, [(0, 0), (8, 0), (8, 8), (0, 8), (0, 0)]))
        self.broken(4, 0, make_room(10, [(5, 5)] * 64))

    def test_none_of_the_directions(self):
        self.broken(4, 0, make_room(10, [(0, 0), (8, 1), (8, 8), (0, 8)]))
        self.broken(4, 1, make_room(10, [(0, 0), (8, 0), (9, 8), (0, 8)]))
        self.broken(4, 2, make_room(10, [(0, 0), (8, 0), (8, 8), (0, 7)]))
        self.broken(4, 3, make_room(10, [(1, 0), (8, 0), (8, 8), (0, 8)]))
        self.broken(4, 2, make_room(10, [(0, 0), (4, 0), (4, 4), (1, 2)]))

    def test_all_eight_directions(self):
        self.sound(OCTAGON)
        self.sound(make_room(10, [(4, 0), (8, 4), (4, 8), (0, 4)]))
        self.sound(make_room(10, [(0, 0), (8, 8), (0, 8)]))
        self.sound(make_room(10, [(0, 0), (4, 0), (4, 4)]))

    def test_least_line_ahead_of_later_rules(self):
        self.broken(4, 1, make_room(10, [(0, 0), (4, 0), (5, 3), (5, 3), (0, 8)]))
        # Lines 0 and 1 go on straight, line 3 has none of the directions.
        self.broken(4, 3, make_room(10, [(0, 0), (4, 0), (8, 0), (8, 8), (0, 7)]))
        # The lines cross as well.
        self.broken(4, 3, make_room(10, [(0, 0), (8, 8), (8, 0), (0, 8), (1, 1)]))
        # Walked the wrong way round as well.
        self.broken(4, 0, make_room(10, [(0, 0), (1, 8), (8, 8), (8, 0)]))


class RuleFive(RoomFault):
    def test_one_direction(self):
        self.broken(5, 0, make_room(10, [(0, 0), (4, 0), (8, 0), (8, 8), (0, 8)]))
        self.broken(5, 1, make_room(10, [(0, 0), (8, 0), (8, 4), (8, 8), (0, 8)]))
        self.broken(5, 4, make_room(10, [(4, 0), (8, 0), (8, 8), (0, 8), (0, 0)]))
        self.broken(5, 0, make_room(10, [(0, 0), (2, 2), (4, 4), (0, 4)]))

    def test_opposite_directions(self):
        self.broken(5, 0, make_room(10, [(0, 0), (9, 0), (8, 0), (8, 8), (0, 8)]))
        self.broken(5, 2, make_room(10, [(0, 0), (8, 0), (8, 8), (0, 8), (4, 8), (4, 4), (0, 4)]))
        self.broken(5, 1, make_room(10, [(0, 0), (8, 0), (4, 4), (6, 2), (0, 2)]))
        self.broken(5, 0, make_room(10, [(0, 0), (8, 0), (4, 0)]))

    def test_least_line_ahead_of_later_rules(self):
        self.broken(5, 1, make_room(10, [(0, 0), (8, 0), (8, 4), (8, 8), (4, 8), (0, 8)]))
        # Lines 0 and 3 cross; line 4 goes on straight in line 5.
        self.broken(5, 4, make_room(10, [(0, 4), (8, 4), (8, 8), (4, 8), (4, 0), (2, 0), (0, 0)]))
        self.broken(5, 0, make_room(10, [(0, 0), (0, 4), (0, 8), (8, 8), (8, 0)]))


class RuleSix(RoomFault):
    def test_lines_that_cross(self):
        # Line 1 goes from (8, 8) down to (8, 0), line 0 and line 2 cross at (4, 4).
        self.broken(6, 0, make_room(10, [(0, 0), (8, 8), (8, 0), (0, 8)]))
        self.broken(6, 1, make_room(10, [(0, 8), (0, 0), (8, 8), (8, 0)]))

    def test_a_corner_on_a_far_line(self):
        # The notch's point (4, 0) lies on line 0.
        self.broken(6, 0, make_room(10, [(0, 0), (8, 0), (8, 8), (4, 8), (4, 0), (2, 2), (2, 8), (0, 8)]))
        self.broken(6, 1, make_room(10, [(0, 8), (0, 0), (8, 0), (8, 4), (4, 0), (1, 3), (6, 8)]))

    def test_a_corner_on_a_corner(self):
        # Two boxes that touch in (4, 4).
        self.broken(6, 0, make_room(10, [(4, 0), (4, 4), (8, 4), (8, 8), (4, 8), (4, 4), (0, 4), (0, 0)]))
        self.broken(6, 1, make_room(10, [(0, 0), (4, 0), (4, 4), (8, 4), (8, 8), (4, 8), (4, 4), (0, 4)]))

    def test_lines_that_run_on_one_another(self):
        # Line 4 runs back along a part of line 0.
        self.broken(6, 0, make_room(10, [(0, 0), (8, 0), (8, 8), (6, 8), (6, 0), (4, 0), (4, 8), (0, 8)]))

    def test_lines_on_one_straight_line_that_do_not_meet(self):
        self.sound(make_room(10, [(0, 0), (3, 0), (3, 3), (5, 3), (5, 0), (8, 0), (8, 8), (0, 8)]))
        self.sound(make_room(10, [(0, 0), (8, 0), (8, 8), (6, 6), (6, 4), (5, 4), (5, 5), (4, 4), (1, 4), (0, 3)]))

    def test_least_line(self):
        # Lines 2 and 4 cross and so do lines 1 and 5.
        self.broken(6, 1, make_room(
            10, [(0, 0), (20, 0), (20, 20), (10, 10), (10, 14), (16, 14), (22, 8), (22, 22), (0, 22)]))
        # The far line that is met stands at the row's end, and at its beginning.
        self.broken(6, 0, make_room(10, [(8, 0), (8, 8), (4, 8), (4, 4), (10, 4), (10, 10), (0, 10), (0, 0)]))

    def test_neighbours_meet_in_their_corner_alone(self):
        for room in (BOX, ELL, OCTAGON, WEDGE, COMB, make_room(10, [(0, 0), (8, 0), (0, 8)])):
            self.sound(room)

    def test_ahead_of_rule_seven(self):
        self.broken(6, 0, make_room(10, [(0, 8), (8, 0), (8, 8), (0, 0)]))
        self.broken(6, 2, make_room(10, [(0, 0), (0, 8), (4, 8), (4, 0), (6, 0), (6, 8), (8, 8), (8, 0)]))


class RuleSeven(RoomFault):
    def test_walked_the_other_way_round(self):
        for room in (BOX, ELL, OCTAGON, WEDGE, COMB, make_room(10, [(0, 0), (8, 0), (0, 8)])):
            corners = [(room[k], room[k + 1]) for k in range(3, len(room), 3)]
            for first in range(len(corners)):
                turned = corners[first:] + corners[:first]
                self.sound(make_room(10, turned))
                self.broken(7, 0, make_room(10, turned[::-1]))


if __name__ == "__main__":
    unittest.main()
