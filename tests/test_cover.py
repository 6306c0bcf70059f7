"""cover, by answers worked out by hand."""

import contextlib
import io
import itertools
import random
import time
import unittest

from hearingplaces.choices import fewest, first_missed, rising_rows
from hearingplaces.places import cover, heard
from rooms_for_tests import BOX, COMB, ELL, OCTAGON, SLOTTED, STUMP, TRIANGLE, WEDGE, Watched, flat, make_room

HUGE = 10 ** 40
# From (2, 6) the wedge hides what is to the right, from (10, 6) what is to the left; from (6, 2) it hides nothing.
LEFT, RIGHT, LOW = (2, 6, 5), (10, 6, 5), (6, 2, 5)
ABOVE = [(4 * k + 3, 37, 5) for k in range(4)]
BESIDE = [(37, 4 * k + 3, 5) for k in range(4)]


def asked(room, places, ears):
    """cover, asked by points."""
    return cover(room, flat(places), flat(ears))


def crossing(above, beside):
    """The point of the slotted room's box that ABOVE[above] and BESIDE[beside] see, and no other slot."""
    return (4 * above + 3, 4 * beside + 3, 5)


def sees(place, ear, room):
    """Whether one place covers one ear."""
    answer = asked(room, [place], [ear])
    if answer not in ([0, 0], [-2, 0]):
        raise AssertionError(answer)
    return answer == [0, 0]


class OrdinaryRooms(unittest.TestCase):
    def test_in_a_box_one_place_is_enough(self):
        points = [(x, y, z) for x in (1, 4, 7) for y in (1, 7) for z in (1, 9)]
        for place in points:
            self.assertEqual(asked(BOX, [place], points), [0, 0])
        self.assertEqual(asked(BOX, points[:8], points), [0, 0])
        self.assertEqual(asked(OCTAGON, [(1, 4, 5), (4, 4, 5)], [(8, 5, 1), (4, 8, 9)]), [0, 0])
        self.assertEqual(asked(TRIANGLE, [(1, 1, 1)], [(6, 1, 9), (1, 6, 9)]), [0, 0])

    def test_one_place_in_rooms_that_are_not_convex(self):
        self.assertEqual(asked(ELL, [(2, 2, 5)], [(7, 1, 5), (1, 7, 5), (2, 2, 2)]), [0, 0])
        self.assertEqual(asked(ELL, [(7, 1, 5), (1, 7, 5), (2, 2, 5)], [(7, 3, 5), (3, 7, 5)]), [0, 2])
        self.assertEqual(asked(WEDGE, [LEFT, LOW, RIGHT], [(2, 7, 5), (10, 7, 5)]), [0, 1])

    def test_two_places(self):
        self.assertEqual(asked(ELL, [(7, 1, 5), (1, 7, 5)], [(7, 3, 5), (3, 7, 5)]), [0, 0, 1])
        self.assertEqual(asked(WEDGE, [LEFT, RIGHT], [(10, 7, 5), (2, 7, 5)]), [0, 0, 1])

    def test_as_many_places_as_teeth(self):
        places = [(4 * k + 1, 9, 5) for k in range(8)]
        for count in range(1, 9):
            ears = [(4 * k + 1, 8, z) for k in range(8 - count, 8) for z in (2, 8)]
            self.assertEqual(asked(COMB, places, ears), [0] + list(range(8 - count, 8)))
        # A place on the ground covers the ground and one tooth: with it, no tooth less is wanted.
        ground = [(1, 1, 5)] + places[1:]
        self.assertEqual(asked(COMB, ground, [(61, 1, 5)]), [0, 0])
        self.assertEqual(asked(COMB, ground, [(61, 1, 5), (1, 9, 5), (9, 8, 5)]), [0, 0, 2])

    def test_all_eight_places(self):
        deep = [(4 * k + 3, 36, z) for k in range(4) for z in (1, 9)]
        deep += [(36, 4 * k + 3, z) for k in range(4) for z in (1, 9)]
        self.assertEqual(len(deep), 16)
        self.assertEqual(asked(SLOTTED, ABOVE + BESIDE, deep), [0, 0, 1, 2, 3, 4, 5, 6, 7])
        for turn in range(8):
            places = (ABOVE + BESIDE)[turn:] + (ABOVE + BESIDE)[:turn]
            self.assertEqual(asked(SLOTTED, places, deep[turn:] + deep[:turn]), [0, 0, 1, 2, 3, 4, 5, 6, 7])
            # Without one of them its two ears are left over.
            self.assertEqual(asked(SLOTTED, places[1:], deep), [-2, 2 * turn])

    def test_each_slot_sees_its_strip_alone(self):
        for k in range(4):
            for i, j in itertools.product(range(4), repeat=2):
                self.assertEqual(sees(ABOVE[k], crossing(i, j), SLOTTED), i == k)
                self.assertEqual(sees(BESIDE[k], crossing(i, j), SLOTTED), j == k)

    def test_sixteen_ears_and_eight_places(self):
        # Four places above, or the four beside, cover all crossings; no three do.
        ears = [crossing(i, j) for i in range(4) for j in range(4)]
        self.assertEqual(asked(SLOTTED, ABOVE + BESIDE, ears), [0, 0, 1, 2, 3])
        mixed = [BESIDE[0], ABOVE[0], ABOVE[1], ABOVE[2], ABOVE[3], BESIDE[1], BESIDE[2], BESIDE[3]]
        self.assertEqual(asked(SLOTTED, mixed, ears), [0, 0, 5, 6, 7])
        mixed = [ABOVE[0], BESIDE[0], BESIDE[1], BESIDE[2], BESIDE[3], ABOVE[1], ABOVE[2], ABOVE[3]]
        self.assertEqual(asked(SLOTTED, mixed, ears), [0, 0, 5, 6, 7])

    def test_the_sixteenth_ear_counts(self):
        ears = [crossing(0, 0)] * 15
        self.assertEqual(asked(SLOTTED, [ABOVE[0], BESIDE[1]], ears + [crossing(0, 1)]), [0, 0])
        self.assertEqual(asked(SLOTTED, [ABOVE[0], BESIDE[1]], ears + [crossing(2, 1)]), [0, 0, 1])
        self.assertEqual(asked(SLOTTED, [ABOVE[0], BESIDE[1]], ears + [crossing(2, 2)]), [-2, 15])

    def test_the_one_that_covers_most_is_not_wanted(self):
        # ABOVE[0] covers three of six, but each of the others has to be covered by a place beside anyway.
        ears = [crossing(0, 0), crossing(0, 1), crossing(0, 2), crossing(1, 0), crossing(2, 1), crossing(3, 2)]
        places = ABOVE + BESIDE
        self.assertEqual(asked(SLOTTED, places, ears), [0, 4, 5, 6])
        self.assertEqual(asked(SLOTTED, BESIDE + ABOVE, ears), [0, 0, 1, 2])
        # Without BESIDE[2], ABOVE[0] and ABOVE[3] have to be there, and of the other two pairs one each.
        self.assertEqual(asked(SLOTTED, places[:6], ears), [0, 0, 1, 2, 3])
        self.assertEqual(asked(SLOTTED, [ABOVE[0], ABOVE[3]] + BESIDE[:2] + ABOVE[1:3], ears), [0, 0, 1, 2, 3])

    def test_three_places(self):
        ears = [crossing(0, 3), crossing(1, 2), crossing(2, 1)]
        self.assertEqual(asked(SLOTTED, ABOVE, ears), [0, 0, 1, 2])
        self.assertEqual(asked(SLOTTED, BESIDE, ears), [0, 1, 2, 3])
        self.assertEqual(asked(SLOTTED, BESIDE + ABOVE, ears), [0, 1, 2, 3])
        self.assertEqual(asked(SLOTTED, BESIDE[:2] + ABOVE, ears), [0, 1, 2, 3])


class NamedEdges(unittest.TestCase):
    OUTSIDE = ((0, 4, 5), (8, 4, 5), (4, 0, 5), (4, 8, 5), (0, 0, 5), (8, 8, 5), (4, 4, 0), (4, 4, 10), (4, 4, 11),
               (-1, 4, 5), (9, 4, 5), (HUGE, 4, 5), (4, -HUGE, 5), (4, 4, HUGE), (-HUGE, -HUGE, -HUGE))

    def test_of_as_few_the_first_by_their_numbers(self):
        ears = [(2, 7, 5), (10, 7, 5)]
        left, right = (1, 6, 5), (11, 6, 5)
        self.assertEqual(asked(WEDGE, [LEFT, left, RIGHT, right], ears), [0, 0, 2])
        self.assertEqual(asked(WEDGE, [RIGHT, LEFT, left, right], ears), [0, 0, 1])
        self.assertEqual(asked(WEDGE, [LEFT, left, (3, 5, 5), RIGHT], ears), [0, 0, 3])

    def test_the_first_number_that_differs(self):
        # Above, or beside: of {0, 3} and {1, 2} the first has the lesser number ahead, though its last is greater.
        ears = [crossing(i, j) for i in (0, 1) for j in (0, 1)]
        self.assertEqual(asked(SLOTTED, [ABOVE[0], BESIDE[0], BESIDE[1], ABOVE[1]], ears), [0, 0, 3])
        self.assertEqual(asked(SLOTTED, [BESIDE[1], ABOVE[1], ABOVE[0], BESIDE[0]], ears), [0, 0, 3])
        self.assertEqual(asked(SLOTTED, [ABOVE[3], ABOVE[0], BESIDE[0], BESIDE[1], ABOVE[1]], ears), [0, 1, 4])
        # Place 0 has to be there; behind it {1, 4} goes ahead of {2, 3}.
        places = [ABOVE[3], ABOVE[0], BESIDE[0], BESIDE[1], ABOVE[1]]
        self.assertEqual(asked(SLOTTED, places, ears + [(15, 30, 5)]), [0, 0, 1, 4])

    def test_fewer_goes_ahead(self):
        self.assertEqual(asked(WEDGE, [LEFT, RIGHT, LOW], [(2, 7, 5), (10, 7, 5)]), [0, 2])
        self.assertEqual(asked(SLOTTED, BESIDE + ABOVE, [crossing(2, j) for j in range(4)]), [0, 6])
        # {5, 6} is fewer than {0, 1, 2}.
        ears = [crossing(i, j) for i in (0, 1) for j in (0, 1, 2)]
        self.assertEqual(asked(SLOTTED, BESIDE[:3] + ABOVE[2:] + ABOVE[:2], ears), [0, 5, 6])

    def test_places_that_are_not_wanted_are_not_told(self):
        self.assertEqual(asked(BOX, [(4, 4, 5)] * 8, [(1, 1, 1)] * 16), [0, 0])
        self.assertEqual(asked(SLOTTED, ABOVE + BESIDE, [crossing(3, 0)]), [0, 3])

    def test_a_place_that_is_not_inside(self):
        for place in self.OUTSIDE:
            self.assertEqual(asked(BOX, [place], [(4, 4, 5)]), [-2, 0])
            self.assertEqual(asked(BOX, [place, (1, 1, 1)], [(4, 4, 5)]), [0, 1])
            self.assertEqual(asked(BOX, [place] * 8, [(4, 4, 5)] * 16), [-2, 0])
        self.assertEqual(asked(ELL, [(5, 5, 5), (4, 4, 5), (1, 1, 1)], [(2, 2, 5)]), [0, 2])

    def test_an_ear_that_is_not_inside(self):
        for ear in self.OUTSIDE:
            self.assertEqual(asked(BOX, [(4, 4, 5)], [ear]), [-2, 0])
            self.assertEqual(asked(BOX, [(4, 4, 5)], [(1, 1, 1), (4, 4, 5), ear]), [-2, 2])
            # Not even from its own point.
            self.assertEqual(asked(BOX, [ear], [ear]), [-2, 0])
        low = make_room(1, [(0, 0), (8, 0), (8, 8), (0, 8)])
        self.assertEqual(asked(low, [(4, 4, 1), (4, 4, 0)], [(4, 4, 0)]), [-2, 0])

    def test_no_place_at_all(self):
        for room in (BOX, ELL, COMB):
            self.assertEqual(asked(room, [], [(1, 1, 1)]), [-2, 0])
            self.assertEqual(asked(room, [], [(1, 1, 1)] * 16), [-2, 0])
            self.assertEqual(asked(room, [], [(-HUGE, HUGE, 0)]), [-2, 0])

    def test_place_and_ear_in_one_point(self):
        self.assertEqual(asked(BOX, [(4, 4, 5)], [(4, 4, 5)]), [0, 0])
        self.assertEqual(asked(ELL, [(7, 3, 5), (3, 7, 5)], [(3, 7, 5)]), [0, 1])
        self.assertEqual(asked(ELL, [(7, 3, 5), (3, 7, 5)], [(3, 7, 5), (7, 3, 5)]), [0, 0, 1])

    def test_straight_above_and_below(self):
        for z in (1, 2, 8, 9):
            self.assertTrue(sees((4, 3, 5), (4, 3, z), ELL))

    def test_a_way_that_touches_a_corner(self):
        self.assertFalse(sees((6, 2, 5), (2, 6, 5), ELL))
        self.assertFalse(sees((2, 6, 5), (6, 2, 5), ELL))
        self.assertTrue(sees((6, 2, 5), (2, 5, 5), ELL))
        self.assertFalse(sees((3, 4, 5), (9, 4, 5), WEDGE))
        self.assertTrue(sees((3, 3, 5), (9, 3, 5), WEDGE))

    def test_a_way_that_touches_a_walls_line(self):
        self.assertFalse(sees((1, 3, 5), (7, 3, 5), STUMP))
        self.assertTrue(sees((1, 4, 5), (7, 4, 5), STUMP))
        slanted = make_room(10, [(0, 0), (8, 0), (8, 4), (6, 4), (4, 6), (4, 8), (0, 8)])
        self.assertFalse(sees((7, 3, 5), (3, 7, 5), slanted))
        self.assertTrue(sees((7, 2, 5), (3, 6, 5), slanted))
        # The line of a wall that the way doesn't reach is no hindrance.
        self.assertTrue(sees((1, 4, 5), (3, 4, 5), ELL))

    def test_a_touched_corner_calls_for_another_place(self):
        self.assertEqual(asked(ELL, [(6, 2, 5), (2, 6, 5)], [(2, 6, 5), (7, 1, 5)]), [0, 0, 1])
        self.assertEqual(asked(ELL, [(6, 2, 5), (2, 6, 5)], [(2, 5, 5), (7, 1, 5)]), [0, 0])

    def test_one_point_twice(self):
        self.assertEqual(asked(WEDGE, [LEFT, LEFT, RIGHT, RIGHT], [(2, 7, 5), (10, 7, 5)]), [0, 0, 2])
        self.assertEqual(asked(WEDGE, [RIGHT, RIGHT, LEFT, LEFT], [(2, 7, 5), (2, 7, 5)]), [0, 2])
        self.assertEqual(asked(WEDGE, [LEFT, RIGHT], [(2, 7, 5), (10, 7, 5), (2, 7, 5), (10, 7, 5)]), [0, 0, 1])

    def test_the_first_ear_that_no_place_covers(self):
        self.assertEqual(asked(WEDGE, [LEFT], [(2, 7, 5), (10, 7, 5), (10, 8, 5)]), [-2, 1])
        self.assertEqual(asked(WEDGE, [LEFT, RIGHT], [(2, 7, 5), (10, 7, 5), (6, 4, 5), (0, 0, 0)]), [-2, 2])
        self.assertEqual(asked(SLOTTED, [ABOVE[1], BESIDE[1]], [crossing(1, 0), crossing(0, 1), crossing(0, 0)]), [-2, 2])
        self.assertEqual(asked(SLOTTED, [ABOVE[1]], [crossing(0, 1), crossing(1, 1), crossing(2, 1)]), [-2, 0])

    def test_stuffs_change_nothing(self):
        stuffed = list(SLOTTED)
        for k in [1, 2] + list(range(5, len(stuffed), 3)):
            stuffed[k] = k % 8
        ears = [crossing(0, 3), crossing(1, 2), crossing(2, 1)]
        self.assertEqual(asked(stuffed, BESIDE + ABOVE, ears), [0, 1, 2, 3])


class Choices(unittest.TestCase):
    def test_rising_rows(self):
        self.assertEqual(rising_rows(0), [()])
        self.assertEqual(rising_rows(1), [(), (0,)])
        self.assertEqual(rising_rows(3), [(), (0,), (1,), (2,), (0, 1), (0, 2), (1, 2), (0, 1, 2)])
        for count in range(9):
            wanted = [row for length in range(count + 1) for row in itertools.combinations(range(count), length)]
            self.assertEqual(rising_rows(count), wanted)

    def test_first_missed(self):
        covered = [[0, 2], [], [1, 2]]
        self.assertEqual(first_missed((0,), covered, 3), 1)
        self.assertEqual(first_missed((2,), covered, 3), 0)
        self.assertEqual(first_missed((), covered, 1), 0)
        self.assertIsNone(first_missed((0, 2), covered, 3))
        self.assertEqual(first_missed((0, 1, 2), covered, 4), 3)

    def test_fewest(self):
        self.assertEqual(fewest([[0, 1], [0, 2], [1, 3], [2, 3]], 4), [0, 3])
        self.assertEqual(fewest([[0], [1], [2], [0, 1, 2]], 3), [3])
        self.assertEqual(fewest([[0, 1, 2, 3], [0, 1, 4], [2, 3, 5]], 6), [1, 2])
        self.assertIsNone(fewest([[0], [1]], 3))
        self.assertIsNone(fewest([], 1))


class Refusals(unittest.TestCase):
    def test_not_as_many_points_as_may_be(self):
        for count in range(21):
            row = [4, 4, 5] * count
            self.assertEqual(cover(BOX, row, [3, 3, 3]), [-2, 0] if count == 0 else [0, 0] if count <= 8 else [-1])
            self.assertEqual(cover(BOX, [3, 3, 3], row), [0, 0] if 1 <= count <= 16 else [-1])

    def test_not_three_numbers_each(self):
        for count in range(61):
            for number in (0, 4, HUGE, -HUGE):
                row = [number] * count
                self.assertEqual(cover(BOX, row, [3, 3, 3])[0] == -1, count % 3 != 0 or count > 24, count)
                self.assertEqual(cover(BOX, [3, 3, 3], row)[0] == -1, count % 3 != 0 or not 3 <= count <= 48, count)

    def test_a_refusal_is_alone(self):
        for count in (1, 2, 4, 25, 27, 49, 51, 59, 60):
            self.assertEqual(cover(BOX, [4] * count, [4] * count), [-1])
            self.assertEqual(cover(BOX, [], [4] * count), [-1] if count != 27 else [-2, 0])
        self.assertEqual(cover(BOX, [4, 4, 5], []), [-1])
        self.assertEqual(cover(BOX, [], []), [-1])

    def test_a_row_may_not_make_up_for_the_other(self):
        self.assertEqual(cover(BOX, [4, 4], [4, 4, 4, 4]), [-1])
        self.assertEqual(cover(BOX, [4, 4, 5] * 9, [4, 4, 5] * 15), [-1])
        self.assertEqual(cover(BOX, [4, 4, 5] * 7, [4, 4, 5] * 17), [-1])

    def test_each_rule_of_the_room(self):
        for rule, wall, room in (
                (1, 0, []), (1, 0, [0] * 300), (2, 0, [0] + BOX[1:]), (3, 3, BOX[:-1] + [8]),
                (4, 2, make_room(10, [(0, 0), (8, 0), (8, 9), (0, 8)])),
                (5, 1, make_room(10, [(0, 0), (8, 0), (8, 4), (8, 8), (0, 8)])),
                (6, 0, make_room(10, [(0, 0), (8, 8), (8, 0), (0, 8)])),
                (7, 0, make_room(10, [(0, 0), (0, 8), (8, 8), (8, 0)]))):
            self.assertEqual(cover(room, [4, 4, 5], [3, 3, 3]), [-5, rule, wall])

    def test_order(self):
        for places, ears in (([4], [3, 3, 3]), ([4, 4, 5] * 9, [3, 3, 3]), ([4, 4, 5], []), ([], []), ([9, 9, 9], [1] * 17),
                             ([4, 4, 5], [-1, -1, -1] * 17), ([-1] * 27, [-1, -1, -1])):
            self.assertEqual(cover(BOX, places, ears), [-1])
            self.assertEqual(cover(BOX[:-1], places, ears), [-5, 1, 0])
            self.assertEqual(cover([HUGE] + BOX[1:], places, ears), [-5, 2, 0])
        self.assertEqual(cover(BOX, [], [-1, -1, -1]), [-2, 0])
        self.assertEqual(cover(BOX[:-1], [], [-1, -1, -1]), [-5, 1, 0])


class Promises(unittest.TestCase):
    def test_so_many_cover_all_and_no_fewer(self):
        chance = random.Random(18)
        sizes = {}
        for room in (BOX, ELL, WEDGE, STUMP, COMB, SLOTTED):
            wide, deep = max(room[3::3]), max(room[4::3])
            for _ in range(10):
                points = [(chance.randrange(1, wide), chance.randrange(1, deep), 5) for _ in range(100)]
                places = [p for p in points if sees(p, p, room)][:6]
                # Each ear but the last is near a place, so that most are covered.
                near = [(x + chance.choice((0, 1, 2)), y, 4) for x, y, z in places + places]
                ears = [p for p in near if sees(p, p, room)] + [chance.choice(points[-50:] + places * 50)]
                told = asked(room, places, ears)
                table = [[sees(place, ear, room) for ear in ears] for place in places]
                if told[0] == -2:
                    self.assertEqual(told[1], [any(column) for column in zip(*table)].index(False))
                    continue
                sets = [numbers for size in range(7) for numbers in itertools.combinations(range(6), size)
                        if all(any(table[k][ear] for k in numbers) for ear in range(len(ears)))]
                self.assertEqual(tuple(told[1:]), sets[0])
                self.assertEqual(len(told) - 1, min(map(len, sets)))
                sizes[len(told) - 1] = sizes.get(len(told) - 1, 0) + 1
        self.assertGreater(len(sizes), 3)

    def test_covered_is_heard_straight(self):
        for room in (BOX, ELL, OCTAGON, WEDGE, STUMP, TRIANGLE):
            points = [(x, y, z) for x in range(0, 12, 2) for y in range(1, 10, 3) for z in (2, 10)]
            for p, q in itertools.product(points, repeat=2):
                self.assertEqual(sees(p, q, room), heard(*p, *q, 0, 0, 1, 1, room) == [0, 0])

    def test_speaker_and_ear_changed_about(self):
        for room in (ELL, WEDGE, STUMP):
            points = [(x, y, z) for x in range(0, 12, 2) for y in range(1, 10, 3) for z in (2, 7)]
            for p, q in itertools.combinations(points, 2):
                self.assertEqual(sees(p, q, room), sees(q, p, room), (p, q))


class LargeInputs(unittest.TestCase):
    def test_numbers_far_off(self):
        for far in itertools.product((-HUGE, 4, HUGE), repeat=3):
            if far == (4, 4, 4):
                continue
            self.assertEqual(asked(BOX, [far, (4, 4, 4)], [(4, 4, 5)]), [0, 1])
            self.assertEqual(asked(BOX, [(4, 4, 4)], [(4, 4, 5), far]), [-2, 1])
            self.assertEqual(asked(BOX, [far], [far]), [-2, 0])
            self.assertEqual(asked(BOX, [far] * 8, [far] * 16), [-2, 0])

    def test_largest_room(self):
        box = make_room(4095, [(0, 0), (4095, 0), (4095, 4095), (0, 4095)])
        self.assertEqual(asked(box, [(4095, 1, 1), (1, 1, 1)], [(4094, 4094, 4094)]), [0, 1])
        # Two arms two wide, as long as may be; where they meet, both are seen.
        arms = make_room(4095, [(0, 0), (4095, 0), (4095, 2), (2, 2), (2, 4095), (0, 4095)])
        self.assertEqual(asked(arms, [(4094, 1, 1), (1, 4094, 1)], [(4000, 1, 4094), (1, 4000, 4094)]), [0, 0, 1])
        self.assertEqual(asked(arms, [(4094, 1, 1), (1, 4094, 1), (1, 1, 9)], [(4000, 1, 4094), (1, 4000, 4094)]), [0, 2])

    def test_as_much_as_may_be(self):
        ground = [(4 * k + 1, 1, 5) for k in range(16)]
        high = [(4 * k + 1, 9, 5) for k in range(16)]
        began = time.perf_counter()
        self.assertEqual(asked(COMB, high[:8], ground[:8] * 2), [0, 0, 1, 2, 3, 4, 5, 6, 7])
        self.assertEqual(asked(COMB, high[:7] + ground[15:], high[:7] + ground[7:]), [0, 0, 1, 2, 3, 4, 5, 6, 7])
        self.assertEqual(asked(COMB, high[:8], high), [-2, 8])
        self.assertEqual(asked(COMB, high[8:], high[8:] + high[:8]), [-2, 8])
        self.assertLess(time.perf_counter() - began, 10)


class WhatIsKept(unittest.TestCase):
    def test_what_is_handed_in_is_not_changed(self):
        for room in (ELL, COMB, [], BOX[:-1] + [8], BOX + [HUGE]):
            for places, ears in (([7, 1, 5, 0, 0, 0, 1, 7, 5], [3, 7, 5, 7, 3, 5]), ([], [1, 1, 1]), ([], [1, 2]),
                                 ([9] * 60, [9] * 60), ([7, 1, 5], [3, 7, 5, 7, 3, 5])):
                handed = [Watched(row) for row in (room, places, ears)]
                cover(*handed)
                self.assertEqual([list(row) for row in handed], [room, places, ears])

    def test_one_list_as_places_and_ears(self):
        row = Watched([7, 3, 5, 3, 7, 5, 2, 2, 5])
        self.assertEqual(cover(ELL, row, row), [0, 2])

    def test_twice_the_same(self):
        calls = [(ELL, [7, 1, 5, 1, 7, 5], [7, 3, 5, 3, 7, 5]), (WEDGE, [2, 6, 5], [10, 7, 5]), (BOX, [], []),
                 (BOX, [], [1, 1, 1]), (BOX[:-1], [1, 1, 1], [1, 1, 1])]
        first = [cover(*call) for call in calls]
        self.assertEqual([cover(*call) for call in reversed(calls)], first[::-1])
        self.assertEqual([cover(*call) for call in calls], first)

    def test_rows_changed_between_calls_are_looked_at_anew(self):
        room, places, ears = list(WEDGE), flat([LEFT, RIGHT]), flat([(2, 7, 5), (10, 7, 5)])
        self.assertEqual(cover(room, places, ears), [0, 0, 1])
        places[3] = 2
        self.assertEqual(cover(room, places, ears), [-2, 1])
        ears[3] = 2
        self.assertEqual(cover(room, places, ears), [0, 0])
        room[0] = 5
        self.assertEqual(cover(room, places, ears), [-2, 0])

    def test_an_answer_is_the_callers_own(self):
        for call, wanted in (((BOX, [4, 4, 5], [1, 1, 1]), [0, 0]), ((BOX, [], [1, 1, 1]), [-2, 0]), ((BOX, [], []), [-1])):
            cover(*call).append("changed")
            self.assertEqual(cover(*call), wanted)

    def test_answers_are_lists_of_whole_numbers(self):
        for call in ((ELL, [7, 1, 5, 1, 7, 5], [7, 3, 5, 3, 7, 5]), (BOX, [], [1, 1, 1]), (BOX, [], []), ([], [], [])):
            answer = cover(*call)
            self.assertIs(type(answer), list)
            self.assertEqual({type(number) for number in answer}, {int})

    def test_nothing_is_printed(self):
        printed = io.StringIO()
        with contextlib.redirect_stdout(printed), contextlib.redirect_stderr(printed):
            asked(ELL, [(7, 1, 5)], [(7, 3, 5)])
            asked(ELL, [], [])
        self.assertEqual(printed.getvalue(), "")

    def test_arguments_bear_their_names(self):
        self.assertEqual(cover(room=list(WEDGE), places=flat([RIGHT, LEFT]), ears=[2, 7, 5]), [0, 1])


if __name__ == "__main__":
    unittest.main()
