"""ways beside the slow reference, over many rooms that are made from a fixed seed."""

import random
import unittest

import reference
from hearingplaces.places import ways
from random_rooms import random_point_inside, random_room
from rooms_for_tests import BOX, ELL, OCTAGON, STUMP, TRIANGLE, WEDGE

HUGE = 10 ** 40


def turns_for(room):
    """As many turns as the slow reference can be asked about."""
    walls = len(room) // 3 + 1
    return max(most for most in range(5) if walls ** most <= 700)


class BesideTheReference(unittest.TestCase):
    def same(self, *call):
        answer = ways(*call)
        self.assertEqual(answer, reference.ways(*call), call)
        return answer

    def test_random_rooms(self):
        chance = random.Random(5)
        found = 0
        for _ in range(50):
            room = random_room(chance)
            s = random_point_inside(chance, room)
            place = random_point_inside(chance, room)
            found += self.same(*s, *place, 0, 0, 1, 1, turns_for(room), room)[1]
        self.assertGreater(found, 500)

    def test_grids_in_the_plain_rooms(self):
        for room in (BOX, ELL, OCTAGON, STUMP, TRIANGLE, WEDGE):
            self.same(2, 3, 4, 0, 0, 6, 1, 1, 9, 9, 1, room)
            self.same(2, 3, 4, 1, 1, 6, 3, 2, 3, 2, 2, room)

    def test_many_turns_in_the_plain_rooms(self):
        for s, place, most, room in (
                ((6, 2, 5), (2, 6, 5), 3, ELL), ((7, 3, 2), (3, 7, 6), 3, ELL), ((1, 1, 1), (2, 3, 9), 4, TRIANGLE),
                ((2, 2, 5), (2, 2, 5), 4, TRIANGLE), ((2, 6, 5), (10, 6, 4), 3, WEDGE), ((3, 4, 5), (5, 2, 1), 4, BOX)):
            self.same(*s, *place, 0, 0, 1, 1, most, room)

    def test_order_of_refusals(self):
        chance = random.Random(6)
        for _ in range(400):
            room = chance.choice((BOX, ELL, BOX[:-1], BOX[::-1], [0] + BOX[1:]))
            numbers = [chance.choice((-HUGE, -1, 0, 1, 4, 7, 8, HUGE)) for _ in range(8)]
            sides = [chance.choice((0, 1, 2, 17, HUGE)) for _ in range(2)]
            self.same(*numbers, *sides, chance.choice((0, 1, 5, HUGE)), room)


if __name__ == "__main__":
    unittest.main()
