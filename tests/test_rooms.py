import random
import unittest

from told import HUGE, Told

from roomweek.rooms import crowd, shared_out


class WishCase(Told):
    def check(self, wishes, hours=None):
        """Hold rooms and crowd against the wishes; the hours are those that are counted one by one."""
        rooms = self.kept(shared_out, wishes)
        hour, places = self.kept(crowd, wishes)
        self.check_rooms(wishes, rooms, len(places))
        self.assertEqual(places, [place for place, wish in enumerate(wishes) if wish[0] <= hour < wish[1]])
        if hours is None:
            hours = range(min(wish[0] for wish in wishes) - 1, max(wish[1] for wish in wishes) + 1)
        for other in hours:
            count = sum(1 for start, stop in wishes if start <= other < stop)
            self.assertLessEqual(count, len(places), (wishes, hour, other))

    def check_rooms(self, wishes, rooms, needed):
        self.assertIs(type(rooms), list)
        self.assertEqual(len(rooms), len(wishes))
        self.assertEqual({type(room) for room in rooms}, {int})
        self.assertEqual(sorted(set(rooms)), list(range(needed)), wishes)
        order = sorted(range(len(wishes)), key=lambda place: (rooms[place], wishes[place]))
        for one, other in zip(order, order[1:]):
            if rooms[one] == rooms[other]:
                self.assertLessEqual(wishes[one][1], wishes[other][0], (wishes[one], wishes[other]))

    def check_size(self, wishes, size):
        self.check(wishes)
        self.assertEqual(len(crowd(wishes)[1]), size)
        self.assertEqual(len(set(shared_out(wishes))), size)


class Wishes(WishCase):
    def test_no_wishes(self):
        self.assertEqual(self.kept(shared_out, []), [])
        wishes = []
        self.assertIsNone(crowd(wishes))
        self.assertEqual(wishes, [])

    def test_kinds(self):
        answer = crowd([(0, 2), (1, 3)])
        self.assertEqual(answer, (1, [0, 1]))
        self.assertIs(type(answer), tuple)
        self.assertIs(type(answer[1]), list)

    def test_one_wish(self):
        for wish in ((0, 1), (5, 900), (-9, -8), (-9, 9)):
            self.assertEqual(shared_out([wish]), [0])
            self.check_size([wish], 1)

    def test_alike(self):
        for many in (2, 3, 10):
            self.check_size([(3, 5)] * many, many)
        self.check_size([(3, 5), (5, 7)] * 4, 4)

    def test_that_touch(self):
        self.check_size([(0, 5), (5, 9)], 1)
        self.check_size([(5, 9), (0, 5)], 1)
        self.check_size([(place, place + 1) for place in range(20)], 1)
        self.check_size([(place, place + 1) for place in range(20, 0, -1)], 1)
        self.check_size([(0, 5), (4, 9)], 2)
        self.check_size([(0, 5), (4, 9), (5, 9), (9, 10)], 2)

    def test_that_lie_within_one_another(self):
        self.check_size([(0, 9), (1, 8), (2, 7), (3, 6)], 4)
        self.check_size([(3, 6), (2, 7), (1, 8), (0, 9)], 4)
        self.check_size([(0, 9), (1, 2), (2, 3), (8, 9)], 2)
        self.check_size([(0, 9), (0, 1), (8, 9)], 2)

    def test_below_nought(self):
        self.check_size([(-9, -3), (-5, -1), (-3, 2), (-1, 0)], 2)
        self.check_size([(-9, -3), (-3, -1)], 1)
        self.check_size([(-9, 9), (-1, 0), (0, 1), (-1, 1)], 3)

    def test_that_lie_apart(self):
        self.check_size([(0, 2), (10, 12), (-10, -8), (4, 5)], 1)

    def test_where_taking_them_as_they_come_would_want_more_rooms(self):
        self.check_size([(0, 2), (5, 7), (1, 4), (3, 6)], 2)
        self.check_size([(-7, -5), (-2, 0), (-6, -3), (-4, -1), (0, 3)], 2)

    def test_every_list_of_three_short_wishes(self):
        short = [(start, stop) for start in range(-2, 3) for stop in range(start + 1, 4)]
        for one in short:
            for two in short:
                for three in short:
                    self.check([one, two, three])

    def test_many_lists_hour_by_hour(self):
        chance = random.Random(101)
        for again in range(600):
            late = chance.choice((3, 10, 60))
            starts = [chance.randrange(-late, late) for number in range(chance.randrange(1, 30))]
            self.check([(start, start + chance.randrange(1, chance.choice((2, 5, 40)))) for start in starts])

    def test_very_large_numbers(self):
        for far in (HUGE, -HUGE, HUGE ** 3):
            wishes = [(far, far + 5), (far + 5, far + HUGE), (far - HUGE, far + 1), (far + 4, far + 6), (-1, 1)]
            self.check(wishes, [hour for wish in wishes for hour in (wish[0] - 1, wish[0], wish[1] - 1, wish[1])])
        wishes = [(-HUGE, HUGE), (0, HUGE ** 2), (HUGE, HUGE + 1), (-HUGE ** 2, -HUGE)]
        self.check(wishes, [hour for wish in wishes for hour in wish])
        self.assertEqual(len(crowd(wishes)[1]), 2)

    def test_pairs_somewhat_beyond_that_have_no_hour(self):
        self.assertEqual(shared_out([(5, 5)]), [0])
        self.assertEqual(crowd([(5, 5), (6, 4)])[1], [])
        for none in ((5, 5), (6, 4)):
            rooms = self.kept(shared_out, [(5, 9), (0, 9), none])
            self.assertEqual(sorted(rooms[:2]), [0, 1])
            self.assertIn(rooms[2], (0, 1))
        wishes = [(0, 9), (5, 5), (6, 4), (1, 8), (9, 10)]
        rooms = self.kept(shared_out, wishes)
        self.assertEqual(sorted(set(rooms)), [0, 1])
        self.assertNotEqual(rooms[0], rooms[3])
        hour, places = crowd(wishes)
        self.assertEqual(places, [0, 3])
        self.assertTrue(1 <= hour < 8)


class TwoThousand(WishCase):
    def check_in_time(self, wishes, size):
        self.assertEqual(len(wishes), 2000)
        self.in_time(shared_out, wishes)
        self.in_time(crowd, wishes)
        self.check(wishes, [wish[0] for wish in wishes])
        self.assertEqual(len(crowd(wishes)[1]), size)

    def test_alike_and_apart(self):
        self.check_in_time([(3, 5)] * 2000, 2000)
        self.check_in_time([(place, place + 1) for place in range(2000)], 1)
        self.check_in_time([(place, place + 500) for place in range(2000, 0, -1)], 500)

    def test_within_one_another_and_very_large(self):
        self.check_in_time([(-place * HUGE - 1, place * HUGE + 1) for place in range(2000)], 2000)


if __name__ == "__main__":
    unittest.main()
