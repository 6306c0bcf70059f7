"""heard beside the slow reference, over many rooms that are made from a fixed seed."""

import random
import unittest

import reference
from hearingplaces.places import heard
from random_rooms import random_point_inside, random_room
from rooms_for_tests import BOX, COMB, ELL, OCTAGON, WEDGE, make_room

HUGE = 10 ** 40


class BesideTheReference(unittest.TestCase):
    def same(self, *call):
        self.assertEqual(heard(*call), reference.heard(*call), call)

    def test_random_rooms(self):
        chance = random.Random(1)
        hidden = 0
        for _ in range(120):
            room = random_room(chance)
            for _ in range(4):
                s = random_point_inside(chance, room)
                step = chance.choice((1, 2))
                grid = (chance.randrange(0, 8), chance.randrange(0, 8), chance.randrange(0, 4), step, step, 7, 7)
                self.same(*s, *grid, room)
                place = random_point_inside(chance, room)
                self.same(*s, *place, 0, 0, 1, 1, room)
                hidden += heard(*s, *place, 0, 0, 1, 1, room) == [0]
        self.assertGreater(hidden, 50)

    def test_every_place_of_the_plain_rooms(self):
        for room in (BOX, ELL, OCTAGON, WEDGE):
            for sx in range(0, 12, 3):
                for sy in range(1, 12, 3):
                    self.same(sx, sy, 5, -1, -1, 5, 1, 1, 14, 12, room)

    def test_comb(self):
        for s in ((1, 1, 1), (33, 1, 5), (30, 7, 9), (29, 5, 5), (61, 9, 9)):
            self.same(*s, 1, 1, 5, 4, 3, 16, 3, COMB)
            self.same(*s, 20, 0, 5, 1, 1, 16, 4, COMB)

    def test_changed_rows(self):
        chance = random.Random(2)
        rules = {}
        for _ in range(3000):
            room = list(chance.choice((BOX, ELL, OCTAGON, WEDGE)))
            for _ in range(chance.randrange(1, 4)):
                number = chance.choice((-HUGE, -1, 0, 1, 2, 3, 4, 4, 5, 6, 8, 8, 4095, 4096, HUGE))
                room[chance.randrange(len(room))] = number
            if chance.randrange(12) == 0:
                room = room[:chance.randrange(len(room))]
            self.same(1, 1, 1, 1, 1, 1, 1, 1, 2, 2, room)
            answer = heard(1, 1, 1, 1, 1, 1, 1, 1, 2, 2, room)
            rules[answer[1] if answer[0] == -5 else 0] = True
        self.assertEqual(sorted(rules), [0, 1, 2, 3, 4, 5, 6])

    def test_random_closed_walks(self):
        chance = random.Random(3)
        rules = {}
        steps = [(1, 0), (0, 1), (-1, 0), (0, -1), (1, 1), (-1, 1), (-1, -1), (1, -1)]
        for _ in range(4000):
            corners = [(chance.randrange(3, 7), chance.randrange(3, 7))]
            for _ in range(chance.randrange(2, 8)):
                (ux, uy), t = chance.choice(steps), chance.choice((1, 2, 3))
                corners.append((max(0, corners[-1][0] + t * ux), max(0, corners[-1][1] + t * uy)))
            room = make_room(3, corners)
            self.same(4, 4, 1, 0, 0, 1, 1, 1, 6, 6, room)
            answer = heard(4, 4, 1, 0, 0, 1, 1, 1, 6, 6, room)
            rules[answer[1] if answer[0] == -5 else 0] = True
        self.assertEqual(sorted(rules), [0, 4, 5, 6, 7])

    def test_order_of_refusals(self):
        chance = random.Random(4)
        for _ in range(400):
            room = chance.choice((BOX, ELL, BOX[:-1], BOX[::-1], [0] + BOX[1:]))
            numbers = [chance.choice((-HUGE, -1, 0, 1, 4, 7, 8, HUGE)) for _ in range(8)]
            sides = [chance.choice((0, 1, 2, 16, 17, HUGE)) for _ in range(2)]
            self.same(*numbers, *sides, room)


if __name__ == "__main__":
    unittest.main()
