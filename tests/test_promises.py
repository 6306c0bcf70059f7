"""The promises over the whole program: what one call tells fits to what the others tell."""

import itertools
import random
import unittest

from hearingplaces.places import best, cover, heard, level, ways
from random_rooms import random_book, random_point_inside, random_room, stuffed
from rooms_for_tests import BOX, ELL, OCTAGON, SLOTTED, STUMP, TRIANGLE, WEDGE, flat

PLAIN = (BOX, ELL, OCTAGON, STUMP, TRIANGLE, WEDGE)


def rooms(seed, count):
    """The plain rooms and some by chance, with stuffs by chance, and the chance to find points by."""
    chance = random.Random(seed)
    for room in list(PLAIN) + [random_room(chance) for _ in range(count)]:
        yield chance, stuffed(chance, room)


def turns_for(room):
    walls = len(room) // 3 + 1
    return max(most for most in range(5) if walls ** most <= 1300)


def one_way(s, place, most, room):
    return ways(*s, *place, 0, 0, 1, 1, most, room)


class Promises(unittest.TestCase):
    def test_heard_straight_is_a_way_without_turns(self):
        for chance, room in rooms(24, 30):
            s = random_point_inside(chance, room)
            grid = (0, 0, s[2], 1, 1, 16, 16)
            count = ways(*s, *grid, 0, room)
            self.assertLessEqual(set(count[1:]), {-1, 0, 1})
            self.assertEqual(heard(*s, *grid, room), [0] + [k for k, n in enumerate(count[1:]) if n == 1])

    def test_more_turns_no_fewer_ways(self):
        for chance, room in rooms(25, 15):
            s, grid = random_point_inside(chance, room), (1, 1, 1, 4, 5, 3, 2)
            told = [ways(*s, *grid, most, room)[1:] for most in range(turns_for(room) + 1)]
            for fewer, more in zip(told, told[1:]):
                self.assertTrue(all(a <= b for a, b in zip(fewer, more)))
                self.assertEqual([a == -1 for a in fewer], [b == -1 for b in more])

    def test_more_turns_no_less_energy(self):
        for chance, room in rooms(26, 10):
            book = random_book(chance)
            points = [list(random_point_inside(chance, room)) for _ in range(2)]
            told = [best(most, 1, room, book, *points)[3] for most in range(turns_for(room) + 1)]
            self.assertEqual(told, sorted(told))

    def test_speaker_and_ear_changed_about(self):
        for chance, room in rooms(27, 25):
            book = random_book(chance)
            most, band = turns_for(room), chance.randrange(4)
            for _ in range(2):
                s, e = [list(random_point_inside(chance, room)) for _ in range(2)]
                self.assertEqual(one_way(s, e, most, room), one_way(e, s, most, room))
                self.assertEqual(level(*s, *e, 0, 0, 1, 1, most, band, room, book),
                                 level(*e, *s, 0, 0, 1, 1, most, band, room, book))
                self.assertEqual(best(most, band, room, book, s, e), best(most, band, room, book, e, s))
                self.assertEqual(cover(room, s, e), cover(room, e, s))
                self.assertEqual(heard(*s, *e, 0, 0, 1, 1, room), heard(*e, *s, 0, 0, 1, 1, room))

    def test_energy_where_there_is_a_way(self):
        # With a book that loses nothing, a place has a level and an energy where it has a way.
        book = [32768] * 36
        for chance, room in rooms(28, 15):
            s, e = [list(random_point_inside(chance, room)) for _ in range(2)]
            most = min(turns_for(room), 2)
            there_is = one_way(s, e, most, room)[1] > 0
            self.assertEqual(level(*s, *e, 0, 0, 1, 1, most, 0, room, book)[1] > -100000, there_is)
            self.assertEqual(best(most, 0, room, book, s, e)[3] > 0, there_is)

    def test_no_place_has_a_greater_worst_energy(self):
        for chance, room in rooms(29, 15):
            book = random_book(chance)
            places, ears = [[list(random_point_inside(chance, room)) for _ in range(count)] for count in (8, 3)]
            told = best(1, 0, room, book, flat(places), flat(ears))
            worst = [min(best(1, 0, room, book, place, ear)[3] for ear in ears) for place in places]
            self.assertEqual(told[:2] + told[3:], [0, worst.index(max(worst)), max(worst)])
            self.assertEqual(best(1, 0, room, book, places[told[1]], ears[told[2]])[3], told[3])

    def test_the_fewest_cover_all(self):
        seen = {}
        for chance, room in itertools.chain(rooms(30, 60), [(random.Random(31), SLOTTED)] * 5):
            places = [random_point_inside(chance, room) for _ in range(chance.choice((3, 7, 7)))]
            ears = [random_point_inside(chance, room) for _ in range(6)] + places[:2]
            # Who is heard straight from a place is covered by it.
            table = [[heard(*place, *ear, 0, 0, 1, 1, room) == [0, 0] for ear in ears] for place in places]
            told = cover(room, flat(places), flat(ears))
            missed = [k for k in range(len(ears)) if not any(row[k] for row in table)]
            if missed:
                self.assertEqual(told, [-2, missed[0]])
            else:
                sets = [numbers for size in range(8) for numbers in itertools.combinations(range(len(places)), size)
                        if all(any(table[k][ear] for k in numbers) for ear in range(len(ears)))]
                self.assertEqual(told, [0, *sets[0]])
            seen[told[0], len(told) - 1] = True
        self.assertLessEqual({(-2, 1), (0, 1), (0, 2), (0, 3)}, set(seen))


if __name__ == "__main__":
    unittest.main()
