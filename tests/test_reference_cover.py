"""cover beside the slow reference, over rooms and points that are made from a fixed seed."""

import random
import unittest

import reference
from hearingplaces.places import cover
from random_rooms import random_point_inside, random_room
from rooms_for_tests import BOX, COMB, ELL, OCTAGON, SLOTTED, STUMP, TRIANGLE, WEDGE, flat

HUGE = 10 ** 40


def greedy_count(room, places, ears):
    """How many places are taken if each time one is taken that covers the most of the ears that are left."""
    left, taken = list(ears), 0
    while left:
        most = max(places, key=lambda place: sum(cover(room, list(place), list(ear)) == [0, 0] for ear in left))
        left = [ear for ear in left if cover(room, list(most), list(ear)) != [0, 0]]
        taken += 1
    return taken


class BesideTheReference(unittest.TestCase):
    def same(self, *call):
        answer = cover(*call)
        self.assertEqual(answer, reference.cover(*call), call)
        return answer

    def test_random_rooms(self):
        chance = random.Random(19)
        lengths = {}
        for _ in range(150):
            room = random_room(chance)
            places = [random_point_inside(chance, room) for _ in range(chance.randrange(9))]
            ears = [random_point_inside(chance, room) for _ in range(chance.randrange(1, 17))]
            if chance.randrange(6) == 0:
                places = [(-1, 4, 1)] + places[1:]
            answer = self.same(room, flat(places), flat(ears))
            lengths[len(answer) if answer[0] == 0 else -2] = True
        self.assertEqual(sorted(lengths)[:4], [-2, 2, 3, 4])

    def test_ears_that_the_places_see(self):
        # Ears are tried until a place sees them, so that a set is told and not an ear that is missed.
        chance = random.Random(20)
        lengths = {}
        for _ in range(100):
            room = random_room(chance)
            places = [random_point_inside(chance, room) for _ in range(chance.randrange(3, 9))]
            tried = [random_point_inside(chance, room) for _ in range(30)]
            ears = [e for e in tried if any(reference.clear(p, e, room) for p in places)][:16]
            answer = self.same(room, flat(places), flat(ears or places))
            self.assertEqual(answer[0], 0)
            lengths[len(answer) - 1] = True
        self.assertGreater(len(lengths), 2)

    def test_crossings_of_the_slots(self):
        chance = random.Random(21)
        slots = [(4 * k + 3, 37, 5) for k in range(4)] + [(37, 4 * k + 3, 5) for k in range(4)]
        crossings = [(4 * i + 3, 4 * j + 3, 5) for i in range(4) for j in range(4)]
        better = 0
        for _ in range(30):
            places = chance.sample(slots, chance.randrange(6, 9))
            ears = [e for e in chance.sample(crossings, chance.randrange(4, 13))
                    if any(e[0] == p[0] or e[1] == p[1] for p in places)]
            answer = self.same(SLOTTED, flat(places), flat(ears))
            self.assertEqual(answer[0], 0)
            better += len(answer) - 1 < greedy_count(SLOTTED, places, ears)
        self.assertGreater(better, 0)

    def test_plain_rooms(self):
        chance = random.Random(22)
        for room in (BOX, ELL, OCTAGON, STUMP, TRIANGLE, WEDGE, COMB):
            for _ in range(8):
                rows = [[(chance.randrange(0, 13), chance.randrange(0, 10), chance.randrange(1, 10)) for _ in range(count)]
                        for count in (8, chance.choice((1, 2, 5)))]
                self.same(room, flat(rows[0]), flat(rows[1]))

    def test_order_of_refusals(self):
        chance = random.Random(23)
        for _ in range(1500):
            room = chance.choice((BOX, BOX, BOX, ELL, BOX[:-1], BOX[::-1], [0] + BOX[1:]))
            rows = [[chance.choice((-HUGE, -1, 0, 1, 3, 3, 3, 5, 5, 5, HUGE)) for _ in range(length)]
                    for length in (chance.choice((0, 1, 3, 6, 24, 25, 27)), chance.choice((0, 1, 3, 6, 48, 49, 51)))]
            self.same(room, *rows)


if __name__ == "__main__":
    unittest.main()
