"""best beside the slow reference, over rooms, books and points that are made from a fixed seed."""

import random
import unittest

import reference
from books_for_tests import make_book
from hearingplaces.places import best
from random_rooms import random_book, random_point_inside, random_room, stuffed
from rooms_for_tests import BOX, ELL, OCTAGON, STUMP, TRIANGLE, WEDGE, flat

HUGE = 10 ** 40


def random_row(chance, room, count):
    """Points, most of them inside, one now and then the same as one ahead of it."""
    points = []
    for _ in range(count):
        kind = chance.randrange(8)
        if kind == 0:
            points.append(tuple(chance.choice((-HUGE, -1, 0, 1, 5, 10, HUGE)) for _ in range(3)))
        elif kind == 1 and points:
            points.append(chance.choice(points))
        else:
            points.append(random_point_inside(chance, room))
    return flat(points)


class BesideTheReference(unittest.TestCase):
    def same(self, *call):
        answer = best(*call)
        self.assertEqual(answer, reference.best(*call), call)
        return answer

    def test_random_rooms(self):
        chance = random.Random(13)
        silent = 0
        numbers = {}
        for _ in range(60):
            room = stuffed(chance, random_room(chance))
            places = random_row(chance, room, chance.randrange(1, 5))
            ears = random_row(chance, room, chance.randrange(1, 4))
            most = chance.choice((0, 1, 1, 2)) if len(room) < 30 else chance.choice((0, 1))
            answer = self.same(most, chance.randrange(4), room, random_book(chance), places, ears)
            silent += answer[3] == 0
            numbers[tuple(answer[1:3])] = True
        self.assertGreater(silent, 5)
        self.assertLess(silent, 50)
        self.assertGreater(len(numbers), 6)

    def test_plain_rooms(self):
        chance = random.Random(14)
        book = make_book(30000, 32000)
        for shape, most in ((BOX, 3), (ELL, 2), (WEDGE, 2), (TRIANGLE, 3), (STUMP, 2), (OCTAGON, 1)):
            room = stuffed(chance, shape)
            for band in range(4):
                places = [1, 1, 5, 2, 3, 4]
                ears = [3, 2, 6, 1, 4, 2, 2, 2, 9]
                self.same(most if band == 0 else 1, band, room, random_book(chance) if band else book, places, ears)

    def test_eight_places_and_eight_ears(self):
        chance = random.Random(15)
        found = {}
        for room in (BOX, ELL, WEDGE, STUMP):
            for most in (0, 0, 0, 1):
                places = flat([random_point_inside(chance, room) for _ in range(8)])
                ears = flat([random_point_inside(chance, room) for _ in range(8)])
                answer = self.same(most, 0, room, make_book(), places, ears)
                found[answer[1]] = True
        self.assertGreater(len(found), 3)

    def test_order_of_refusals(self):
        chance = random.Random(16)
        right = make_book()
        for _ in range(1500):
            room = chance.choice((BOX, BOX, BOX, ELL, BOX[:-1], [0] + BOX[1:]))
            book = chance.choice((right, right, right, right[:35], [], right[:20] + [32769] + right[21:]))
            rows = [[chance.choice((-HUGE, -1, 0, 1, 3, 5, HUGE)) for _ in range(chance.choice((0, 1, 3, 6, 24, 25, 27)))]
                    for _ in range(2)]
            self.same(chance.choice((0, 0, 5, HUGE)), chance.choice((0, 3, 4, HUGE)), room, book, *rows)


if __name__ == "__main__":
    unittest.main()
