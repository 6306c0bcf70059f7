"""best, by answers worked out by hand; of a box by the grid of its mirrored boxes."""

import contextlib
import io
import itertools
import random
import time
import unittest

import reference
from books_for_tests import FULL, book_of, make_book
from hearingplaces.books import level_of
from hearingplaces.places import best, level
from mirrored_boxes import box_paths, square_length
from rooms_for_tests import BOX, COMB, ELL, OCTAGON, STUMP, TRIANGLE, WEDGE, Watched, flat, make_room

HUGE = 10 ** 40
LARGE = make_room(4095, [(0, 0), (4095, 0), (4095, 4095), (0, 4095)])
BOOK = make_book()


def asked(places, ears, most=0, band=0, room=LARGE, book=None):
    """best, asked by points."""
    return best(most, band, room, BOOK if book is None else book, flat(places), flat(ears))


def energy(place, ear, most=0, band=0, room=LARGE, book=None):
    """The energy from one place to one ear."""
    answer = asked([place], [ear], most, band, room, book)
    if answer[:3] != [0, 0, 0] or len(answer) != 4:
        raise AssertionError(answer)
    return answer[3]


def at(*numbers):
    """Points of the large room that lie on one line along x."""
    return [(x, 900, 700) for x in numbers]


class StraightWays(unittest.TestCase):
    def test_one_place_and_one_ear(self):
        for ear in ((1256, 900, 700), (744, 900, 700), (1000, 1156, 700), (1000, 900, 956), (1000, 900, 444)):
            self.assertEqual(asked([(1000, 900, 700)], [ear]), [0, 0, 0, 2 ** 48])
        self.assertEqual(asked(at(1000), at(1512)), [0, 0, 0, 2 ** 46])
        self.assertEqual(asked(at(1000), at(1001)), [0, 0, 0, 2 ** 64])
        self.assertEqual(asked([(5, 5, 5)], [(6, 5, 6)]), [0, 0, 0, 3037000500 ** 2])

    def test_the_worst_ear_is_the_one_farthest_off(self):
        self.assertEqual(asked(at(1000), at(1001, 1512, 1128)), [0, 0, 1, 2 ** 46])
        self.assertEqual(asked(at(1000), at(2024, 1512, 1128)), [0, 0, 0, 2 ** 44])
        self.assertEqual(asked(at(1000), at(1064, 1128, 1512)), [0, 0, 2, 2 ** 46])

    def test_best_place_is_the_first_the_last_or_one_between(self):
        ears = at(1000, 1512)
        self.assertEqual(asked(at(1256, 1000, 1512), ears), [0, 0, 0, 2 ** 48])
        self.assertEqual(asked(at(1000, 1256, 1512), ears), [0, 1, 0, 2 ** 48])
        self.assertEqual(asked(at(1512, 1000, 1256), ears), [0, 2, 0, 2 ** 48])

    def test_the_nearest_ear_makes_no_place_better(self):
        # Place 0 is at ear 0, but 512 from ear 1; place 1 is 256 from both.
        self.assertEqual(asked(at(1000, 1256), at(1000, 1512)), [0, 1, 0, 2 ** 48])
        # Place 0 brings more in all: 2 ** 64 and 2 ** 46 against 2 ** 48 twice.
        self.assertEqual(asked(at(1000, 1256), at(1000, 1000, 1000, 1512)), [0, 1, 0, 2 ** 48])

    def test_eight_places_and_eight_ears(self):
        ears = at(1000, 1010, 1020, 1030, 1040, 1050, 1512, 1500)
        for turn in range(8):
            places = at(1001, 1011, 1100, 1200, 1256, 1400, 1500, 1512)
            places = places[turn:] + places[:turn]
            self.assertEqual(asked(places, ears), [0, (4 - turn) % 8, 0, 2 ** 48])
        for turn in range(8):
            turned = ears[turn:] + ears[:turn]
            self.assertEqual(asked(at(1000), turned), [0, 0, (6 - turn) % 8, 2 ** 46])

    def test_the_eighth_ear_counts(self):
        self.assertEqual(asked(at(1000), at(1001, 1001, 1001, 1001, 1001, 1001, 1001, 1512)), [0, 0, 7, 2 ** 46])

    def test_walls_count_for_nothing_without_turns(self):
        self.assertEqual(asked(at(1000), at(1256), book=make_book(0)), [0, 0, 0, 2 ** 48])

    def test_the_air_takes_its_part(self):
        half = make_book(FULL, FULL // 2)
        self.assertEqual(energy((9, 9, 9), (1032, 9, 9), book=half), 4198404 ** 2)
        self.assertEqual(energy((9, 9, 9), (1033, 9, 9), book=half), 2 ** 42)
        # To ear 0 it is farther, but in a band whose air leaves nothing ear 1 has nothing either.
        self.assertEqual(asked(at(1000), at(2024, 2025), book=make_book(FULL, 0)), [0, 0, 0, 0])
        self.assertEqual(asked(at(1000), at(2023, 2025), book=make_book(FULL, 0)), [0, 0, 1, 0])


class Turns(unittest.TestCase):
    def test_there_and_back_in_a_box(self):
        # From the middle of BOX to itself: 8 by each side wall, 10 by floor and ceiling; then 16 and 20.
        middle = (4, 4, 5)
        self.assertEqual(energy(middle, middle, 0, 0, BOX), 2 ** 64)
        once = 2 ** 64 + 4 * 2 ** 58 + 2 * 429496730 ** 2
        self.assertEqual(energy(middle, middle, 1, 0, BOX), once)
        self.assertEqual(energy(middle, middle, 2, 0, BOX), once + 4 * 2 ** 56 + 2 * 214748365 ** 2)

    def test_beside_the_mirrored_boxes(self):
        sizes = (8, 7, 6)
        room = make_room(6, [(0, 0), (8, 0), (8, 7), (0, 7)], 3, 3, 1)
        room[5] = room[11] = 2
        book = [20000 + 301 * k for k in range(32)] + [32000] * 4
        points = [(1, 1, 1), (5, 3, 4), (6, 2, 5), (4, 4, 3)]
        for most, band in ((0, 0), (1, 1), (2, 2), (3, 3), (4, 0), (4, 3)):
            for place, ear in itertools.product(points[:2], points):
                wanted = 0
                for times in box_paths(place, ear, most, sizes):
                    stuffs = [1] * abs(times[0]) + [2] * abs(times[1]) + [3] * abs(times[2])
                    wanted += reference.gain(stuffs, square_length(place, ear, times, sizes), band, book) ** 2
                self.assertEqual(energy(place, ear, most, band, room, book), wanted, (most, place, ear))

    def test_round_a_corner(self):
        # Straight on, the corner (4, 4) is touched; by wall 0 and by wall 5 the root of 80 it is.
        self.assertEqual(asked([(6, 2, 5)], [(2, 6, 5)], 0, 0, ELL), [0, 0, 0, 0])
        self.assertEqual(asked([(6, 2, 5)], [(2, 6, 5)], 1, 0, ELL), [0, 0, 0, 2 * 480191942 ** 2])

    def test_turns_may_change_the_place(self):
        # Place 0 is round the corner as above; place 1 is 20 above the ear, and by each of its walls farther.
        high = [40] + ELL[1:]
        places = [(6, 2, 5), (2, 6, 25)]
        self.assertEqual(asked(places, [(2, 6, 5)], 0, 0, high), [0, 1, 0, 214748365 ** 2])
        self.assertEqual(asked(places, [(2, 6, 5)], 1, 0, high), [0, 0, 0, 2 * 480191942 ** 2])

    def test_each_band_has_a_best_place_of_its_own(self):
        # To the ear by wall 0 alone and by wall 5 alone: 80 and 80 from place 0, 97 and 73 from place 1, squared.
        room = list(ELL)
        room[5], room[20] = 3, 6
        book = [0] * 32 + [FULL] * 4
        book[4 * 3 + 0] = book[4 * 6 + 1] = book[4 * 3 + 2] = book[4 * 6 + 2] = FULL
        places = [(6, 2, 5), (6, 3, 5)]
        answers = [asked(places, [(2, 6, 5)], 1, band, room, book) for band in range(4)]
        self.assertEqual(answers, [[0, 0, 0, 480191942 ** 2], [0, 1, 0, 502687899 ** 2],
                                   [0, 0, 0, 2 * 480191942 ** 2], [0, 0, 0, 0]])
        self.assertEqual(asked(places[1:], [(2, 6, 5)], 1, 2, room, book),
                         [0, 0, 0, 436087857 ** 2 + 502687899 ** 2])

    def test_every_band_reads_its_own_parts(self):
        for band in range(4):
            book = book_of({0: FULL // 2}, band)
            answer = energy((4, 4, 5), (4, 4, 5), 1, band, BOX, book)
            self.assertEqual(answer, 2 ** 64 + 4 * 2 ** 56 + 2 * 214748365 ** 2)
            self.assertEqual(energy((4, 4, 5), (4, 4, 5), 1, (band + 1) % 4, BOX, book), 2 ** 64)


class NamedEdges(unittest.TestCase):
    OUTSIDE = ((0, 4, 5), (8, 4, 5), (4, 0, 5), (4, 8, 5), (0, 0, 5), (8, 8, 5), (4, 4, 0), (4, 4, 10), (4, 4, 11),
               (-1, 4, 5), (9, 4, 5), (HUGE, 4, 5), (4, -HUGE, 5), (4, 4, HUGE), (-HUGE, -HUGE, -HUGE))

    def test_a_place_that_is_not_inside(self):
        for place in self.OUTSIDE:
            self.assertEqual(asked([place], [(4, 4, 5), (3, 4, 5)], 1, 0, BOX), [0, 0, 0, 0])
            self.assertEqual(asked([place, (4, 4, 5)], [(4, 5, 5)], 0, 0, BOX), [0, 1, 0, 2 ** 64])
            self.assertEqual(asked([(4, 4, 5), place], [(4, 5, 5)], 0, 0, BOX), [0, 0, 0, 2 ** 64])
        self.assertEqual(asked([(5, 5, 5), (6, 2, 5)], [(7, 2, 5)], 0, 0, ELL), [0, 1, 0, 2 ** 64])

    def test_an_ear_that_is_not_inside(self):
        for ear in self.OUTSIDE:
            self.assertEqual(asked([(4, 4, 5)], [ear], 1, 0, BOX), [0, 0, 0, 0])
            self.assertEqual(asked([(4, 4, 5), (3, 3, 3)], [(4, 5, 5), ear, (4, 4, 5), ear], 1, 0, BOX), [0, 0, 1, 0])

    def test_an_ear_outside_and_a_place_outside(self):
        # Of a place outside all ears have nothing, so the first is the worst; of one inside it's the one outside.
        ears = [(4, 5, 5), (0, 4, 5)]
        self.assertEqual(asked([(9, 4, 5), (4, 4, 5)], ears, 1, 0, BOX), [0, 0, 0, 0])
        self.assertEqual(asked([(4, 4, 5), (9, 4, 5)], ears, 1, 0, BOX), [0, 0, 1, 0])

    def test_all_of_them_outside(self):
        for point in self.OUTSIDE:
            self.assertEqual(asked([point] * 8, [point] * 8, 1, 0, BOX), [0, 0, 0, 0])
        low = make_room(1, [(0, 0), (8, 0), (8, 8), (0, 8)])
        self.assertEqual(asked([(4, 4, 1), (4, 4, 0)], [(4, 4, 1), (4, 4, 0)], 2, 0, low), [0, 0, 0, 0])

    def test_places_that_are_as_good(self):
        # Either way round, the first one is told.
        self.assertEqual(asked(at(1256, 744), at(1000)), [0, 0, 0, 2 ** 48])
        self.assertEqual(asked(at(744, 1256), at(1000)), [0, 0, 0, 2 ** 48])
        self.assertEqual(asked(at(2024, 1256, 744, 1256), at(1000)), [0, 1, 0, 2 ** 48])
        # As good by other ears: the ear is that of the first place.
        self.assertEqual(asked(at(1256, 1512), at(1512, 1256), 0), [0, 0, 0, 2 ** 48])
        self.assertEqual(asked(at(1512, 1256), at(1512, 1256), 0), [0, 0, 1, 2 ** 48])

    def test_places_that_are_as_bad(self):
        # From place 0 ear 1 is hidden, from place 1 ear 0: the first is told, with its own worst ear.
        ears = [(7, 2, 5), (2, 7, 5)]
        self.assertEqual(asked([(6, 2, 5), (2, 6, 5)], ears, 0, 0, ELL), [0, 0, 1, 0])
        self.assertEqual(asked([(2, 6, 5), (6, 2, 5)], ears, 0, 0, ELL), [0, 0, 0, 0])

    def test_ears_that_hear_as_badly(self):
        self.assertEqual(asked(at(1000), at(1001, 1256, 744, 999)), [0, 0, 1, 2 ** 48])
        self.assertEqual(asked(at(1000), at(744, 1256)), [0, 0, 0, 2 ** 48])
        self.assertEqual(asked(at(1000), at(1001, 1001, 1256, 744, 1256)), [0, 0, 2, 2 ** 48])

    def test_one_point_twice(self):
        self.assertEqual(asked(at(1000, 1000), at(1256, 1256)), [0, 0, 0, 2 ** 48])
        self.assertEqual(asked(at(1512, 1000, 1000), at(1256, 1256, 1001)), [0, 1, 0, 2 ** 48])
        self.assertEqual(asked(at(1000) * 8, at(1256) * 8), [0, 0, 0, 2 ** 48])

    def test_place_and_ear_in_one_point(self):
        self.assertEqual(asked(at(1000), at(1000)), [0, 0, 0, 2 ** 64])
        self.assertEqual(asked([(1, 1, 1)], [(1, 1, 1)], 0, 0, ELL), [0, 0, 0, 2 ** 64])
        # A length below 1 counts as 1, so one point and the next whole one are as good.
        self.assertEqual(asked(at(1001, 1000), at(1000)), [0, 0, 0, 2 ** 64])
        self.assertEqual(asked(at(1000), at(1001, 1000)), [0, 0, 0, 2 ** 64])
        self.assertEqual(asked(at(1002, 1000), at(1000)), [0, 1, 0, 2 ** 64])

    def test_a_worst_energy_of_nothing(self):
        # Hidden straight on; and by turns where no wall brings anything back.
        for most in (0, 1, 2):
            self.assertEqual(asked([(6, 2, 5)], [(7, 2, 5), (2, 6, 5)], most, 0, ELL, make_book(0)), [0, 0, 1, 0])
        self.assertEqual(asked([(6, 2, 5), (2, 2, 5)], [(6, 2, 5), (2, 6, 5)], 0, 0, ELL), [0, 1, 0, 2 ** 60])
        self.assertEqual(asked([(1, 9, 5)], [(61, 9, 5)], 1, 0, COMB), [0, 0, 0, 0])

    def test_gains_are_rounded_ahead_of_their_squares(self):
        # By wall 1 it is 999, so the gain is 2 ** 17 / 999, which is 131.2; by wall 3 it is 1001, which makes 130.9.
        room = make_room(1000, [(0, 0), (1000, 0), (1000, 1000), (0, 1000)])
        room[8], room[14] = 1, 2
        for parts, wanted in (({}, 0), ({1: 1}, 131 ** 2), ({2: 1}, 131 ** 2), ({1: 1, 2: 1}, 2 * 131 ** 2)):
            book = book_of(parts, 0)
            self.assertEqual(energy((500, 500, 500), (501, 500, 500), 1, 0, room, book), 2 ** 64 + wanted)


class Refusals(unittest.TestCase):
    def refused(self, most=0, band=0, room=BOX, book=None, places=(4, 4, 5), ears=(3, 3, 3)):
        return best(most, band, room, BOOK if book is None else book, list(places), list(ears))

    def test_not_as_many_points_as_may_be(self):
        for count in range(21):
            row = [4, 4, 5] * count
            for name in ("places", "ears"):
                answer = self.refused(**{name: row})
                self.assertEqual(answer[0], 0 if 1 <= count <= 8 else -1, (name, count))
                self.assertEqual(len(answer), 4 if 1 <= count <= 8 else 1)

    def test_not_three_numbers_each(self):
        for count in range(61):
            for number in (0, 4, HUGE, -HUGE):
                row = [number] * count
                wanted = 0 if count in (3, 6, 9, 12, 15, 18, 21, 24) else -1
                self.assertEqual(self.refused(places=row)[0], wanted, count)
                self.assertEqual(self.refused(ears=row)[0], wanted, count)
                if wanted == -1:
                    self.assertEqual(self.refused(places=row, ears=row), [-1])

    def test_a_row_may_not_make_up_for_the_other(self):
        # Together they'd have six numbers, or sixteen points.
        self.assertEqual(self.refused(places=[4, 4], ears=[4, 4, 4, 4]), [-1])
        self.assertEqual(self.refused(places=[4, 4, 5] * 9, ears=[4, 4, 5] * 7), [-1])
        self.assertEqual(self.refused(places=[], ears=[4, 4, 5] * 8), [-1])

    def test_numbers_out_of_their_bounds(self):
        for number in (5, 6, HUGE):
            self.assertEqual(self.refused(most=number), [-1])
        for number in (4, 5, HUGE):
            self.assertEqual(self.refused(band=number), [-1])
        self.assertEqual(self.refused(most=HUGE, band=HUGE), [-1])
        for most in range(5):
            for band in range(4):
                self.assertEqual(self.refused(most=most, band=band)[:3], [0, 0, 0])

    def test_book(self):
        for length in (0, 1, 35, 37, 60):
            self.assertEqual(self.refused(book=[HUGE] * length), [-6, length])
        for place in range(36):
            for part in (32769, HUGE):
                self.assertEqual(self.refused(book=[FULL] * place + [part] + [HUGE] * (35 - place)), [-6, place])

    def test_each_rule_of_the_room(self):
        for rule, wall, room in (
                (1, 0, []), (1, 0, [0] * 300), (2, 0, [0] + BOX[1:]), (3, 3, BOX[:-1] + [8]),
                (4, 2, make_room(10, [(0, 0), (8, 0), (8, 9), (0, 8)])),
                (5, 1, make_room(10, [(0, 0), (8, 0), (8, 4), (8, 8), (0, 8)])),
                (6, 0, make_room(10, [(0, 0), (8, 8), (8, 0), (0, 8)])),
                (7, 0, make_room(10, [(0, 0), (0, 8), (8, 8), (8, 0)]))):
            self.assertEqual(self.refused(room=room), [-5, rule, wall])

    def test_order(self):
        for wrong in ({"most": 5}, {"band": 4}, {"places": []}, {"ears": []}, {"places": [4, 4, 5] * 9},
                      {"ears": [4, 4, 5, 4]}, {"most": HUGE, "band": HUGE, "places": [1], "ears": [2, 3]}):
            self.assertEqual(self.refused(**wrong), [-1])
            self.assertEqual(self.refused(book=[0] * 35, **wrong), [-6, 35])
            self.assertEqual(self.refused(book=[0] * 35 + [HUGE], **wrong), [-6, 35])
            self.assertEqual(self.refused(room=BOX[:-1], **wrong), [-5, 1, 0])
            self.assertEqual(self.refused(room=BOX[:-1], book=[], **wrong), [-5, 1, 0])
            self.assertEqual(self.refused(room=[0] + BOX[1:], book=[HUGE] * 36, **wrong), [-5, 2, 0])
        self.assertEqual(self.refused(room=BOX[:-1], book=[]), [-5, 1, 0])

    def test_points_outside_are_no_refusal(self):
        self.assertEqual(self.refused(places=[-1, -1, -1], ears=[HUGE, 0, 0]), [0, 0, 0, 0])


class Promises(unittest.TestCase):
    def rows(self, chance, count):
        return [(chance.randrange(0, 12), chance.randrange(0, 11), chance.randrange(1, 10)) for _ in range(count)]

    def test_no_place_has_a_greater_worst_energy(self):
        chance = random.Random(17)
        book = [chance.randrange(20000, 32769) for _ in range(36)]
        for room in (BOX, ELL, OCTAGON, WEDGE, STUMP, TRIANGLE):
            for most in (0, 1):
                for _ in range(6):
                    places = self.rows(chance, chance.randrange(1, 9))
                    ears = self.rows(chance, chance.randrange(1, 4))
                    told = asked(places, ears, most, 2, room, book)
                    table = [[energy(place, ear, most, 2, room, book) for ear in ears] for place in places]
                    worst = [min(energies) for energies in table]
                    self.assertEqual(told[3], max(worst))
                    self.assertEqual(told[1], worst.index(told[3]))
                    self.assertEqual(told[2], table[told[1]].index(told[3]))

    def test_speaker_and_ear_changed_about(self):
        book = [32768 - 37 * k for k in range(36)]
        for room, most in ((BOX, 2), (ELL, 2), (OCTAGON, 1), (WEDGE, 2), (STUMP, 1), (TRIANGLE, 3)):
            points = [(x, y, z) for x in range(1, 12, 3) for y in (1, 4, 8) for z in (2, 7)]
            for p, q in itertools.islice(itertools.combinations(points, 2), 0, None, 5):
                self.assertEqual(energy(p, q, most, 1, room, book), energy(q, p, most, 1, room, book), (p, q))

    def test_the_energy_has_the_level_that_is_told(self):
        book = [32768 - 37 * k for k in range(36)]
        for room in (BOX, ELL, WEDGE):
            for most, band in ((0, 0), (1, 1), (2, 3)):
                levels = level(2, 3, 4, 0, 0, 6, 1, 1, 9, 9, most, band, room, book)[1:]
                for k in range(0, 81, 4):
                    told = energy((2, 3, 4), (k % 9, k // 9, 6), most, band, room, book)
                    self.assertEqual(level_of(told), levels[k])


class LargeInputs(unittest.TestCase):
    def test_numbers_far_off(self):
        for far in itertools.product((-HUGE, 4, HUGE), repeat=3):
            if far == (4, 4, 4):
                continue
            self.assertEqual(asked([far, (4, 4, 4)], [(4, 4, 5)], 4, 3, BOX)[:3], [0, 1, 0])
            self.assertEqual(asked([(4, 4, 4)], [(4, 4, 5), far], 4, 3, BOX), [0, 0, 1, 0])
            self.assertEqual(asked([far], [far], 4, 3, BOX), [0, 0, 0, 0])

    def test_as_many_looks_as_may_be(self):
        half = make_room(4095, [(0, 0), (4095, 0), (0, 4095)])
        teeth = make_room(10, [(0, 0), (14, 0), (14, 10), (12, 10), (12, 2), (10, 2), (10, 10), (8, 10), (8, 2), (6, 2),
                               (6, 10), (4, 10), (2, 8), (2, 2), (0, 2)])
        book = make_book(32767, 32766)
        for places, ears, most, room, first, step in (
                (8, 4, 4, half, (17, 23, 39), (200, 201, 80)), (4, 8, 4, half, (17, 23, 39), (200, 201, 80)),
                (2, 1, 4, OCTAGON, (4, 4, 3), (1, 0, 1)), (1, 2, 4, OCTAGON, (4, 4, 3), (1, 0, 1)),
                (5, 3, 4, LARGE, (1, 2, 3), (501, 403, 77)), (8, 8, 2, teeth, (1, 1, 1), (1, 0, 1)),
                (2, 2, 2, COMB, (1, 1, 5), (4, 0, 1)), (8, 8, 1, COMB, (1, 1, 1), (4, 0, 1)),
                (8, 8, 0, COMB, (1, 1, 1), (4, 0, 1))):
            self.assertLessEqual((len(room) // 3 + 1) ** most * places * ears, 20000)
            points = [tuple(f + k * g for f, g in zip(first, step)) for k in range(9)]
            began = time.perf_counter()
            answer = asked(points[:places], points[1:1 + ears], most, 1, room, book)
            self.assertLess(time.perf_counter() - began, 20)
            self.assertEqual((answer[0], len(answer)), (0, 4))
            self.assertGreater(answer[3], 0)


class WhatIsKept(unittest.TestCase):
    def test_what_is_handed_in_is_not_changed(self):
        for room in (ELL, [], BOX[:-1] + [8]):
            for book in (BOOK, [], [HUGE] * 36):
                for places, ears in (([6, 2, 5, 0, 0, 0, 2, 2, 2], [2, 6, 5, 6, 2, 5]), ([], [1, 2]), ([9] * 60, [9] * 60)):
                    handed = [Watched(row) for row in (room, book, places, ears)]
                    best(1, 1, *handed)
                    self.assertEqual([list(row) for row in handed], [room, book, places, ears])

    def test_one_list_as_places_and_ears(self):
        row = Watched([2, 6, 5, 6, 2, 5, 2, 2, 5])
        self.assertEqual(best(0, 0, ELL, BOOK, row, row), [0, 2, 0, 2 ** 60])

    def test_twice_the_same(self):
        calls = [(1, 0, ELL, BOOK, [6, 2, 5, 2, 2, 5], [2, 6, 5]), (0, 3, WEDGE, BOOK, [2, 6, 5], [9, 6, 5, 2, 2, 2]),
                 (1, 0, BOX, BOOK, [], [1, 1, 1]), (5, 0, BOX, BOOK, [1, 1, 1], [1, 1, 1]),
                 (1, 0, BOX[:-1], BOOK, [1, 1, 1], [1, 1, 1]), (1, 0, BOX, [], [1, 1, 1], [1, 1, 1])]
        first = [best(*call) for call in calls]
        self.assertEqual([best(*call) for call in reversed(calls)], first[::-1])
        self.assertEqual([best(*call) for call in calls], first)

    def test_rows_changed_between_calls_are_looked_at_anew(self):
        places, ears, book = flat(at(1000)), flat(at(1256)), make_book()
        self.assertEqual(best(0, 0, LARGE, book, places, ears), [0, 0, 0, 2 ** 48])
        ears[0] = 1512
        self.assertEqual(best(0, 0, LARGE, book, places, ears), [0, 0, 0, 2 ** 46])
        places[0] = 1511
        self.assertEqual(best(0, 0, LARGE, book, places, ears), [0, 0, 0, 2 ** 64])
        book[0] = 32769
        self.assertEqual(best(0, 0, LARGE, book, places, ears), [-6, 0])

    def test_an_answer_is_the_callers_own(self):
        for call, wanted in (((0, 0, LARGE, BOOK, flat(at(1000)), flat(at(1256))), [0, 0, 0, 2 ** 48]),
                             ((0, 0, LARGE, BOOK, [], []), [-1]), ((0, 0, LARGE, [], [], []), [-6, 0])):
            best(*call).append("changed")
            self.assertEqual(best(*call), wanted)

    def test_answers_are_lists_of_whole_numbers(self):
        for call in ((1, 0, ELL, BOOK, [6, 2, 5, 2, 2, 5], [2, 6, 5]), (0, 0, ELL, BOOK, [0, 0, 0], [0, 0, 0]),
                     (0, 0, ELL, BOOK, [], []), (0, 0, ELL, [], [], []), (0, 0, [], [], [], [])):
            answer = best(*call)
            self.assertIs(type(answer), list)
            self.assertEqual({type(number) for number in answer}, {int})

    def test_nothing_is_printed(self):
        printed = io.StringIO()
        with contextlib.redirect_stdout(printed), contextlib.redirect_stderr(printed):
            asked([(6, 2, 5)], [(2, 6, 5)], 1, 0, ELL)
            asked([], [], 1, 0, ELL)
        self.assertEqual(printed.getvalue(), "")

    def test_arguments_bear_their_names(self):
        answer = best(most=0, band=0, room=list(LARGE), book=make_book(), places=flat(at(1512, 1000)),
                      ears=flat(at(1001, 1256)))
        self.assertEqual(answer, [0, 1, 1, 2 ** 48])


if __name__ == "__main__":
    unittest.main()
