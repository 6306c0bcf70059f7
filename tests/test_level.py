"""level, by answers worked out by hand."""

import contextlib
import io
import itertools
import time
import unittest

from books_for_tests import FULL, book_of, make_book
from hearingplaces.books import gain, level_of
from hearingplaces.places import heard, level, ways
from rooms_for_tests import BOX, COMB, ELL, OCTAGON, STUMP, TRIANGLE, WEDGE, Watched, make_room

HUGE = 10 ** 40
NONE = -100000
LARGE = make_room(4095, [(0, 0), (4095, 0), (4095, 4095), (0, 4095)])
TWO = 2 ** 48


def one_level(s, place, most, band, room, book):
    """The level of one place, asked as a grid of one."""
    answer = level(*s, *place, 0, 0, 1, 1, most, band, room, book)
    if len(answer) != 2 or answer[0] != 0:
        raise AssertionError(answer)
    return answer[1]


def straight(dx, dy, dz, book, band=0):
    """The level of the straight way alone, so far along x, y and z, in a large room."""
    return one_level((9, 9, 9), (9 + dx, 9 + dy, 9 + dz), 0, band, LARGE, book)


class OnePath(unittest.TestCase):
    def test_length_256_with_nothing_lost(self):
        self.assertEqual(gain([], 256 ** 2, 0, make_book()), 2 ** 24)
        self.assertEqual(straight(256, 0, 0, make_book()), 0)
        self.assertEqual(straight(0, 256, 0, make_book()), 0)
        self.assertEqual(straight(0, 0, 256, make_book()), 0)

    def test_half_and_double_the_length(self):
        # 6.02, and -6.02 rounded down.
        self.assertEqual(straight(128, 0, 0, make_book()), 6)
        self.assertEqual(straight(512, 0, 0, make_book()), -7)

    def test_just_below_and_above_a_bound(self):
        self.assertEqual(straight(256, 1, 0, make_book()), -1)
        self.assertEqual(straight(255, 22, 5, make_book()), 0)

    def test_length_below_one_is_one(self):
        # 2 ** 64 over 2 ** 48 is 65536: 48.16.
        self.assertEqual(gain([], 0, 0, make_book()), 2 ** 32)
        self.assertEqual(gain([], 1, 0, make_book()), 2 ** 32)
        self.assertEqual(straight(0, 0, 0, make_book()), 48)
        self.assertEqual(straight(1, 0, 0, make_book()), 48)
        self.assertEqual(straight(1, 1, 0, make_book()), 45)

    def test_root_that_is_not_whole(self):
        # 2 ** 32 over the roots of 2 and 3: 3037000499.98 and 2479700524.78.
        self.assertEqual(gain([], 2, 0, make_book()), 3037000500)
        self.assertEqual(gain([], 3, 0, make_book()), 2479700525)
        # 2 ** 32 over the root of 5 is 1920767766.7; over 3 it's 1431655765.33.
        self.assertEqual(gain([], 5, 0, make_book()), 1920767767)
        self.assertEqual(gain([], 9, 0, make_book()), 1431655765)

    def test_each_wall_takes_its_part(self):
        book = list(range(1000, 1032)) + [FULL] * 4
        for stuff in range(8):
            for band in range(4):
                part = 1000 + 4 * stuff + band
                self.assertEqual(gain([stuff], 1, band, book), part * 2 ** 17)
                self.assertEqual(gain([stuff, 0], 1, band, book), part * (1000 + band) * 4)
                self.assertEqual(gain([stuff, stuff, stuff], 1, band, book), (part ** 3 + 2 ** 12) // 2 ** 13)

    def test_the_air_takes_its_part_at_each_whole_1024(self):
        half = make_book(FULL, FULL // 2)
        # 20 times the logarithms of 256 over the length and of the halves: -12.03, -18.06, -24.08, -30.1.
        self.assertEqual([straight(n, 0, 0, half) for n in (1023, 1024, 1025, 2047, 2048)], [-13, -19, -19, -25, -31])
        self.assertEqual(gain([], 1024 ** 2, 0, half), 2 ** 21)
        self.assertEqual(gain([], 2048 ** 2, 0, half), 2 ** 19)
        self.assertEqual(gain([], 3072 ** 2, 0, half), (2 ** 32 // 8 + 1536) // 3072)

    def test_the_air_beside_lengths_that_are_not_whole(self):
        half = make_book(FULL, FULL // 2)
        self.assertEqual(straight(1023, 43, 14, half), -13)
        self.assertEqual(straight(1024, 1, 0, half), -19)
        self.assertEqual(straight(2047, 58, 27, half), -25)
        self.assertEqual(straight(2048, 1, 0, half), -31)
        self.assertEqual(gain([], 1024 ** 2 - 1, 0, half), 2 ** 22 + 2)
        for m in range(2, 35):
            # The square one less changes the gain by less than its rounding does, but spares one half.
            for square, halves in (((1024 * m) ** 2 - 1, m - 1), ((1024 * m) ** 2, m), ((1024 * m) ** 2 + 1, m)):
                self.assertEqual(gain([], square, 0, half), (2 ** 23 + m * 2 ** halves) // (2 * m * 2 ** halves))

    def test_the_airs_ends(self):
        self.assertEqual(straight(1023, 0, 0, make_book(FULL, 0)), -13)
        self.assertEqual(straight(1024, 0, 0, make_book(FULL, 0)), NONE)
        self.assertEqual(straight(1024, 0, 0, make_book(FULL, FULL)), -13)
        self.assertEqual(straight(4000, 0, 0, make_book(FULL, FULL)), -24)

    def test_straight_on_walls_count_for_nothing(self):
        self.assertEqual(straight(256, 0, 0, make_book(0, FULL)), 0)

    def test_just_between_two_whole_numbers(self):
        # 2 ** 32 a b / 2 ** 30 / 8: half of a b.
        for a, b, wanted in ((1, 1, 1), (2, 1, 1), (3, 1, 2), (4, 1, 2), (5, 1, 3), (7, 3, 11)):
            self.assertEqual(gain([0, 1], 64, 2, book_of({0: a, 1: b}, 2)), wanted)
        # Just below the half: a length a little above 8.
        self.assertEqual(gain([0, 1], 65, 2, book_of({0: 1, 1: 1}, 2)), 0)
        self.assertEqual(gain([0, 1], 65, 2, book_of({0: 3, 1: 1}, 2)), 1)
        self.assertEqual(gain([0, 1], 63, 2, book_of({0: 3, 1: 1}, 2)), 2)

    def test_gain_of_nothing(self):
        self.assertEqual(gain([3], 1, 0, make_book(0, FULL)), 0)
        self.assertEqual(gain([0, 0, 0, 0], 2 ** 20, 0, make_book(1, 1)), 0)
        self.assertEqual(gain([0], 5000 ** 2, 0, make_book(1, 1)), 0)


class RoundTheCorner(unittest.TestCase):
    """From s to e by wall 0 and by wall 5 alone, both 1240 long: 200 along x, 1200 in all along y, 240 along z."""

    def setUp(self):
        self.room = make_room(1000, [(0, 0), (1200, 0), (1200, 600), (600, 600), (600, 1200), (0, 1200)])
        self.room[5] = 3
        self.room[20] = 6

    def told(self, stuffs, air, most=1):
        return one_level((700, 500, 50), (500, 700, 290), most, 2, self.room, book_of(stuffs, 2, air))

    def test_gain_just_between_two_whole_numbers(self):
        # The gain is what comes back times what the air leaves, by 310. At 1 / 2 it's 1: -144.49.
        self.assertEqual(self.told({3: 155}, 1), -145)
        self.assertEqual(self.told({3: 154}, 1), NONE)
        self.assertEqual(self.told({3: 31}, 5), -145)
        # At 3 / 2 it's 2, and the energy 4: -138.47.
        self.assertEqual(self.told({3: 465}, 1), -139)
        self.assertEqual(self.told({3: 464}, 1), -145)

    def test_energies_of_two_paths_together(self):
        # 2, and 4 + 1: -141.48 and -137.5.
        self.assertEqual(self.told({3: 155, 6: 155}, 1), -142)
        self.assertEqual(self.told({3: 465, 6: 155}, 1), -138)
        self.assertEqual(self.told({3: 155, 6: 465}, 1), -138)

    def test_no_path_and_nothing_that_comes_back(self):
        self.assertEqual(self.told({3: FULL, 6: FULL}, FULL, 0), NONE)
        self.assertEqual(self.told({}, FULL), NONE)
        self.assertEqual(self.told({3: FULL, 6: FULL}, 0), NONE)
        self.assertEqual(self.told({0: FULL, 1: FULL, 2: FULL, 4: FULL, 5: FULL, 7: FULL}, FULL), NONE)
        # 256 over 1240, of two paths: -13.7 and 3.01.
        self.assertEqual(self.told({3: FULL, 6: FULL}, FULL), -11)
        self.assertEqual(self.told({3: FULL}, FULL), -14)


class Levels(unittest.TestCase):
    def test_bounds_of_every_level(self):
        # Below -130 so few energies are left that some levels have none.
        for number in range(-130, 120):
            # The least energy that has the level: its tenth power is at least 2 ** 480 times 10 ** number.
            low, high = 0, 2 ** 100
            while high - low > 1:
                middle = (low + high) // 2
                if middle ** 10 * 10 ** 200 >= 2 ** 480 * 10 ** (200 + number):
                    high = middle
                else:
                    low = middle
            self.assertEqual(level_of(high), number)
            self.assertEqual(level_of(high - 1), number - 1)

    def test_whole_tens(self):
        for tens in range(5):
            self.assertEqual(level_of(TWO * 10 ** tens), 10 * tens)
            self.assertEqual(level_of(TWO * 10 ** tens - 1), 10 * tens - 1)
            self.assertEqual(level_of(TWO * 10 ** tens + 1), 10 * tens)

    def test_below_zero_is_rounded_down_too(self):
        self.assertEqual([level_of(TWO), level_of(TWO - 1), level_of(TWO // 2), level_of(TWO // 4)], [0, -1, -4, -7])
        self.assertEqual([level_of(1), level_of(2), level_of(3), level_of(4)], [-145, -142, -140, -139])

    def test_no_energy(self):
        self.assertEqual(level_of(0), NONE)


class Rooms(unittest.TestCase):
    def test_number_of_turns(self):
        cube = make_room(512, [(0, 0), (512, 0), (512, 512), (0, 512)])
        told = [one_level((128, 256, 256), (384, 256, 256), most, 0, cube, make_book()) for most in range(5)]
        # Straight 256; by x = 0 and by x = 512 512; by the other four 256 times the root of 5. Of 2 ** 48 that's
        # 1, 1 / 4 twice and 1 / 5 four times: 2.3 in all, and its level 3.6.
        self.assertEqual(told[:2], [0, 3])
        self.assertEqual(told, sorted(told))
        self.assertGreater(told[4], told[1])

    def test_stuffs_differ_from_wall_to_wall(self):
        # Each wall is asked alone: only its stuff brings something back.
        room = make_room(3000, [(0, 0), (4000, 0), (4000, 4000), (0, 4000)], 4, 5)
        for wall in range(4):
            room[5 + 3 * wall] = wall
        s, e = (1000, 1000, 1000), (1600, 1000, 1000)
        squares = {0: 600 ** 2 + 2000 ** 2, 1: 5400 ** 2, 2: 600 ** 2 + 6000 ** 2, 3: 2600 ** 2,
                   4: 600 ** 2 + 2000 ** 2, 5: 600 ** 2 + 4000 ** 2}
        for wall, square in squares.items():
            for band in range(4):
                book = book_of({wall: FULL - 100 * band}, band)
                energy = gain([], 600 ** 2, band, book) ** 2 + gain([wall], square, band, book) ** 2
                self.assertEqual(one_level(s, e, 1, band, room, book), level_of(energy))
                self.assertEqual(one_level(s, e, 0, band, room, book), level_of(gain([], 600 ** 2, band, book) ** 2))
                # What the other bands bring back counts for nothing.
                self.assertEqual(one_level(s, e, 1, (band + 1) % 4, room, book[:32] + [FULL] * 4), -8)

    def test_floor_and_ceiling_are_not_mixed_up(self):
        room = make_room(100, [(0, 0), (100, 0), (100, 100), (0, 100)], 1, 2, 0)
        s = (50, 50, 1)
        self.assertEqual(one_level(s, (50, 50, 2), 1, 0, room, book_of({1: FULL}, 0)), 48)
        by_floor = one_level(s, (52, 50, 1), 1, 0, room, book_of({1: FULL}, 0))
        by_ceiling = one_level(s, (52, 50, 1), 1, 0, room, book_of({2: FULL}, 0))
        # 2 long straight, the root of 8 by the floor, almost 200 by the ceiling: 43.9, and 42.1 without the floor.
        self.assertEqual((by_floor, by_ceiling), (43, 42))

    def test_air_in_its_band(self):
        for band in range(4):
            book = make_book(FULL, 0)
            book[32 + band] = FULL
            self.assertEqual([straight(1024, 0, 0, book, other) for other in range(4)],
                             [-13 if other == band else NONE for other in range(4)])

    def test_levels_of_a_grid(self):
        # From (9, 9, 9) places 256 apart: 0, -6.02, -9.54 along x; -3.01, -6.99, -10 in the next row, and so on.
        self.assertEqual(level(9, 9, 9, 265, 9, 9, 256, 256, 3, 2, 0, 0, LARGE, make_book()),
                         [0, 0, -7, -10, -4, -7, -10])

    def test_places_that_are_not_inside(self):
        self.assertEqual(level(4, 4, 5, -1, 4, 5, 5, 0, 3, 1, 0, 0, BOX, make_book()), [0, NONE, 48, NONE])
        for place in ((0, 4, 5), (8, 8, 5), (4, 4, 0), (4, 4, 10), (9, 9, 5), (4, 4, -HUGE), (HUGE, 4, 5)):
            self.assertEqual(one_level((4, 4, 5), place, 1, 0, BOX, make_book()), NONE, place)

    def test_places_without_a_path(self):
        self.assertEqual(level(7, 3, 5, 3, 7, 5, 1, 0, 2, 1, 1, 0, ELL, make_book()), [0, NONE, NONE])
        # By two walls (4, 0) and (0, 4): 10 times the root of 2 long. 256 over it: 25.15.
        self.assertEqual(one_level((7, 3, 5), (3, 7, 5), 2, 0, ELL, make_book()), 25)
        self.assertEqual(one_level((7, 3, 5), (3, 7, 5), 2, 0, ELL, make_book(0, FULL)), NONE)

    def test_what_comes_back_at_its_ends(self):
        for most in range(5):
            self.assertEqual(one_level((1, 2, 3), (5, 2, 3), most, 0, BOX, make_book(0, FULL)), 36)
        self.assertGreater(one_level((1, 2, 3), (5, 2, 3), 1, 0, BOX, make_book(FULL, FULL)), 36)


class Promises(unittest.TestCase):
    def test_speaker_and_place_changed_about(self):
        book = [FULL - 997 * (k * k % 31) for k in range(36)]
        for shape, most in ((ELL, 3), (WEDGE, 3), (STUMP, 2), (OCTAGON, 2), (TRIANGLE, 4)):
            room = list(shape)
            for k in [1, 2] + list(range(5, len(room), 3)):
                room[k] = k * 5 % 8
            points = [(x, y, z) for x in range(1, 12, 3) for y in range(1, 10, 3) for z in (2, 7)]
            points = [p for p in points if heard(*p, *p, 0, 0, 1, 1, room) == [0, 0]]
            for s, e in itertools.combinations(points, 2):
                for band in (0, 3):
                    self.assertEqual(one_level(s, e, most, band, room, book), one_level(e, s, most, band, room, book))

    def test_a_level_where_there_is_a_way(self):
        for room in (BOX, ELL, WEDGE, STUMP):
            for most in range(3):
                told = level(2, 3, 5, 0, 0, 4, 1, 1, 9, 9, most, 0, room, make_book())
                count = ways(2, 3, 5, 0, 0, 4, 1, 1, 9, 9, most, room)
                self.assertEqual([n == NONE for n in told[1:]], [n <= 0 for n in count[1:]])


class Refusals(unittest.TestCase):
    def asked(self, nx=1, ny=1, most=0, band=0, room=BOX, book=None, s=(4, 4, 5)):
        return level(*s, 3, 3, 3, 1, 1, nx, ny, most, band, room, make_book() if book is None else book)

    def test_how_many_numbers_a_book_has(self):
        for length in (0, 1, 35, 37, 60):
            self.assertEqual(self.asked(book=[0] * length), [-6, length])
            self.assertEqual(self.asked(book=[HUGE] * length), [-6, length])
        self.assertEqual(self.asked(book=[0] * 36)[0], 0)

    def test_first_number_above_its_bound(self):
        for place in range(36):
            for part in (32769, HUGE):
                book = make_book()
                book[place] = part
                self.assertEqual(self.asked(book=book), [-6, place])
                book[35] = HUGE
                self.assertEqual(self.asked(book=book), [-6, place])
        self.assertEqual(self.asked(book=[HUGE] * 36), [-6, 0])
        self.assertEqual(self.asked(book=[FULL] * 36)[0], 0)

    def test_numbers_out_of_their_bounds(self):
        for nx, ny in ((0, 1), (1, 0), (17, 1), (1, 17), (HUGE, 1), (1, HUGE), (0, HUGE)):
            self.assertEqual(self.asked(nx=nx, ny=ny), [-1])
        for number in (5, HUGE):
            self.assertEqual(self.asked(most=number), [-1])
        for number in (4, 5, HUGE):
            self.assertEqual(self.asked(band=number), [-1])
        self.assertEqual(self.asked(most=4, band=3)[0], 0)

    def test_s_not_inside(self):
        for s in ((0, 4, 5), (4, 8, 5), (4, 4, 0), (4, 4, 10), (HUGE, 4, 5), (4, -HUGE, 5), (4, 4, HUGE)):
            self.assertEqual(self.asked(s=s), [-3])

    def test_each_rule_of_the_room(self):
        for rule, wall, room in (
                (1, 0, []), (1, 0, [0] * 300), (2, 0, [0] + BOX[1:]), (3, 3, BOX[:-1] + [8]),
                (4, 2, make_room(10, [(0, 0), (8, 0), (8, 9), (0, 8)])),
                (5, 1, make_room(10, [(0, 0), (8, 0), (8, 4), (8, 8), (0, 8)])),
                (6, 0, make_room(10, [(0, 0), (8, 8), (8, 0), (0, 8)])),
                (7, 0, make_room(10, [(0, 0), (0, 8), (8, 8), (8, 0)]))):
            self.assertEqual(self.asked(room=room), [-5, rule, wall])

    def test_order(self):
        wrong = {"room": BOX[:-1], "book": [0] * 35, "band": 4, "s": (0, 4, 5)}
        answers = ([-5, 1, 0], [-6, 35], [-1], [-3])
        names = list(wrong)
        for k in range(4):
            self.assertEqual(self.asked(**{name: wrong[name] for name in names[k:]}), answers[k])
            self.assertEqual(self.asked(**{names[k]: wrong[names[k]]}), answers[k])
        for number in ({"nx": 0}, {"ny": 17}, {"most": 5}, {"band": HUGE}):
            self.assertEqual(self.asked(s=(0, 4, 5), **number), [-1])
            self.assertEqual(self.asked(book=[0] * 35 + [HUGE], **number), [-6, 35])
            self.assertEqual(self.asked(room=[0] + BOX[1:], **number), [-5, 2, 0])


class LargeInputs(unittest.TestCase):
    def test_places_and_steps_far_off(self):
        book = make_book()
        for x, y, z in ((HUGE, 4, 5), (4, HUGE, 5), (4, 4, HUGE), (-HUGE, 4, 5), (4, -HUGE, 5), (4, 4, -HUGE)):
            self.assertEqual(level(4, 4, 5, x, y, z, 1, 1, 2, 2, 3, 0, BOX, book), [0] + [NONE] * 4)
        self.assertEqual(level(4, 4, 5, 4, 4, 5, HUGE, -HUGE, 2, 2, 0, 0, BOX, book), [0, 48, NONE, NONE, NONE])

    def test_as_many_looks_as_may_be(self):
        half = make_room(4095, [(0, 0), (4095, 0), (0, 4095)])
        book = make_book(32767, 32766)
        for nx, ny, most, room, place, steps in (
                (8, 4, 4, half, (17, 23, 39), (300, 200)), (2, 1, 4, OCTAGON, (4, 4, 3), (1, 0)),
                (5, 3, 4, LARGE, (1, 2, 3), (801, 903)), (2, 2, 2, COMB, (1, 1, 5), (4, 1)),
                (16, 16, 1, COMB, (1, 1, 5), (4, 0)), (16, 16, 0, COMB, (1, 1, 5), (4, 1))):
            self.assertLessEqual((len(room) // 3 + 1) ** most * nx * ny, 20000)
            s = (place[0] + steps[0], place[1], 1)
            began = time.perf_counter()
            answer = level(*s, *place, *steps, nx, ny, most, 1, room, book)
            self.assertLess(time.perf_counter() - began, 20)
            self.assertEqual(len(answer), 1 + nx * ny)
            self.assertGreater(max(answer[1:]), -100)


class WhatIsKept(unittest.TestCase):
    def test_room_and_book_are_not_changed(self):
        for room in (BOX, ELL, [], BOX + [HUGE], BOX[:-1] + [8]):
            for book in (make_book(), make_book(9, 9), [], [HUGE] * 36, [1] * 60):
                handed = Watched(room), Watched(book)
                level(1, 5, 5, 1, 1, 5, 1, 1, 3, 3, 2, 1, *handed)
                self.assertEqual((list(handed[0]), list(handed[1])), (room, book))

    def test_twice_the_same(self):
        book = make_book(30000, 31000)
        calls = [(6, 2, 5, 0, 0, 5, 1, 1, 9, 9, 2, 0, ELL, book), (2, 6, 5, 0, 0, 5, 1, 1, 9, 9, 1, 3, WEDGE, book),
                 (4, 4, 5, 0, 0, 5, 1, 1, 0, 9, 1, 0, BOX, book), (0, 4, 5, 0, 0, 5, 1, 1, 9, 9, 1, 0, BOX, book),
                 (4, 4, 5, 0, 0, 5, 1, 1, 9, 9, 1, 0, BOX[:-1], book), (4, 4, 5, 0, 0, 5, 1, 1, 9, 9, 1, 0, BOX, [])]
        first = [level(*call) for call in calls]
        self.assertEqual([level(*call) for call in reversed(calls)], first[::-1])

    def test_a_book_changed_between_calls_is_looked_at_anew(self):
        book = make_book()
        self.assertEqual(straight(1024, 0, 0, book), -13)
        book[32] = 0
        self.assertEqual(straight(1024, 0, 0, book), NONE)
        level(4, 4, 5, 4, 4, 5, 1, 1, 1, 1, 0, 0, BOX, book).append("changed")
        self.assertEqual(level(4, 4, 5, 4, 4, 5, 1, 1, 1, 1, 0, 0, BOX, book), [0, 48])

    def test_answers_are_lists_of_whole_numbers(self):
        for call in ((6, 2, 5, 0, 0, 5, 1, 1, 9, 9, 2, 0, ELL, make_book()), (4, 4, 5, 0, 0, 5, 1, 1, 0, 9, 0, 0, BOX, []),
                     (0, 4, 5, 0, 0, 5, 1, 1, 9, 9, 0, 0, BOX, [0] * 36), (4, 4, 5, 0, 0, 5, 1, 1, 1, 1, 0, 0, [], [])):
            answer = level(*call)
            self.assertIs(type(answer), list)
            self.assertEqual({type(number) for number in answer}, {int})

    def test_nothing_is_printed(self):
        printed = io.StringIO()
        with contextlib.redirect_stdout(printed), contextlib.redirect_stderr(printed):
            level(6, 2, 5, 0, 0, 5, 1, 1, 9, 9, 1, 0, ELL, make_book())
            level(6, 2, 5, 0, 0, 5, 1, 1, 9, 9, 1, 0, ELL, [])
        self.assertEqual(printed.getvalue(), "")

    def test_arguments_bear_their_names(self):
        answer = level(sx=4, sy=4, sz=5, x=4, y=4, z=5, dx=4, dy=1, nx=2, ny=1, most=0, band=0, room=list(BOX),
                       book=make_book())
        self.assertEqual(answer, [0, 48, NONE])


if __name__ == "__main__":
    unittest.main()
