"""level beside the slow reference, over rooms and books that are made from a fixed seed."""

import random
import unittest

import reference
from hearingplaces.books import gain, level_of
from hearingplaces.places import level
from random_rooms import random_book, random_point_inside, random_room, stuffed
from rooms_for_tests import BOX, ELL, TRIANGLE, WEDGE, make_room

HUGE = 10 ** 40


class BesideTheReference(unittest.TestCase):
    def same(self, *call):
        answer = level(*call)
        self.assertEqual(answer, reference.level(*call), call)
        return answer

    def test_random_rooms(self):
        chance = random.Random(7)
        found = {}
        for _ in range(60):
            room = stuffed(chance, random_room(chance))
            s = random_point_inside(chance, room)
            place = random_point_inside(chance, room)
            most = chance.choice((0, 1, 1, 2)) if len(room) < 50 else 1
            answer = self.same(*s, *place, 0, 0, 1, 1, most, chance.randrange(4), room, random_book(chance))
            found[answer[1]] = True
        self.assertGreater(len(found), 10)
        self.assertIn(-100000, found)

    def test_plain_rooms(self):
        chance = random.Random(8)
        for shape, most in ((BOX, 3), (ELL, 2), (WEDGE, 2), (TRIANGLE, 4)):
            room = stuffed(chance, shape)
            for band in range(4):
                self.same(2, 3, 4, 1, 2, 6, 3, 1, 2, 1, most, band, room, random_book(chance))

    def test_large_rooms(self):
        chance = random.Random(9)
        large = [(0, 0), (4095, 0), (4095, 1500), (2000, 1500), (2000, 4095), (0, 4095)]
        for _ in range(12):
            room = stuffed(chance, make_room(4095, large))
            s = (chance.randrange(1, 4095), chance.randrange(1, 1500), chance.randrange(1, 4095))
            place = (chance.randrange(1, 2000), chance.randrange(1, 4095), chance.randrange(1, 4095))
            book = [chance.randrange(25000, 32769) for _ in range(36)]
            self.same(*s, *place, 0, 0, 1, 1, 2, chance.randrange(4), room, book)

    def test_gains(self):
        chance = random.Random(10)
        for _ in range(3000):
            book = random_book(chance)
            stuffs = [chance.randrange(8) for _ in range(chance.randrange(5))]
            length = chance.choice((1, 2, 3, 8, 64, 512, 1000, 1024, 2048, 5000, 35000))
            square = chance.choice((length ** 2 - 1, length ** 2, length ** 2 + 1, chance.randrange(length ** 2)))
            band = chance.randrange(4)
            self.assertEqual(gain(stuffs, square, band, book), reference.gain(stuffs, square, band, book))

    def test_levels(self):
        chance = random.Random(11)
        energies = list(range(300)) + [chance.getrandbits(chance.randrange(1, 80)) for _ in range(1000)]
        for energy in energies + [2 ** 48 * 10 ** k + d for k in range(8) for d in (-1, 0, 1)]:
            self.assertEqual(level_of(energy), reference.level_of(energy), energy)

    def test_order_of_refusals(self):
        chance = random.Random(12)
        right = [32768] * 36
        for _ in range(600):
            room = chance.choice((BOX, BOX, ELL, BOX[:-1], [0] + BOX[1:]))
            book = chance.choice((right, right, right[:35], [], right + [HUGE], right[:20] + [32769] + right[21:]))
            numbers = [chance.choice((-HUGE, -1, 0, 1, 4, 7, 8, HUGE)) for _ in range(8)]
            sides = [chance.choice((0, 1, 1, 2, 17, HUGE)) for _ in range(2)]
            self.same(*numbers, *sides, chance.choice((0, 1, 5, HUGE)), chance.choice((0, 3, 4, HUGE)), room, book)


if __name__ == "__main__":
    unittest.main()
