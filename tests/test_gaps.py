import random
import unittest

from told import HUGE, Told, WEEK, holders, random_book

from roomweek.book import gaps

BOOK = [("choir", 1, 10, 12, 3), ("chess", 1, 12, 20, 1), ("dance", 2, 5, 173, 3), ("art", 1, 30, 31, 2)]


def told_gaps(rows, room, start, stop):
    """The gaps, from the hours told one by one."""
    had = holders(rows, room)
    found = []
    for hour in range(start, stop):
        if hour in had:
            continue
        if found and found[-1][1] == hour:
            found[-1] = (found[-1][0], hour + 1)
        else:
            found.append((hour, hour + 1))
    return found


class Gaps(Told):
    def check(self, rows, room, start, stop, answer):
        self.assertEqual(self.kept(gaps, rows, room, start, stop), answer, (rows, room, start, stop))

    def check_told(self, rows, room, start, stop):
        self.check(rows, room, start, stop, told_gaps(rows, room, start, stop))

    def test_in_order_and_as_long_as_can_be(self):
        self.check(BOOK, 1, 0, 600, [(0, 10), (20, 30), (31, 178), (180, 198), (199, 346), (348, 600)])

    def test_free_all_the_time(self):
        for room in (0, 3, -1, HUGE):
            self.check(BOOK, room, 0, 600, [(0, 600)])
            self.check([], room, -5, 1, [(-5, 1)])
        self.check(BOOK, 1, 31, 178, [(31, 178)])
        self.check(BOOK, 1, 32, 33, [(32, 33)])
        self.check(BOOK, 1, 600, 9000, [(600, 9000)])

    def test_never_free(self):
        self.check(BOOK, 1, 10, 20, [])
        self.check(BOOK, 1, 11, 13, [])
        self.check(BOOK, 1, 178, 180, [])
        self.check(BOOK, 2, 5, 5 + 3 * WEEK, [])

    def test_over_the_edges_of_the_stretch(self):
        self.check(BOOK, 1, 9, 21, [(9, 10), (20, 21)])
        self.check(BOOK, 1, 11, 21, [(20, 21)])
        self.check(BOOK, 1, 9, 19, [(9, 10)])
        self.check(BOOK, 1, 179, 199, [(180, 198)])
        self.check(BOOK, 2, 4, 6 + 3 * WEEK, [(4, 5), (5 + 3 * WEEK, 6 + 3 * WEEK)])

    def test_below_nought(self):
        self.check(BOOK, 1, -400, -300, [(-400, -300)])
        self.check(BOOK, 1, -400, 0, [(-400, 0)])
        self.check(BOOK, 1, -400, 5, [(-400, 5)])
        self.check(BOOK, 1, -400, 11, [(-400, 10)])
        self.check([("a", 1, 0, 3, 2)], 1, -400, 5, [(-400, 0), (3, 5)])

    def test_where_stop_is_not_more_than_start(self):
        for start, stop in ((0, 0), (32, 32), (11, 11), (40, 32), (40, -40), (-5, -5), (-5, -6), (HUGE, -HUGE)):
            self.check(BOOK, 1, start, stop, [])
            self.check([], 1, start, stop, [])

    def test_single_hours(self):
        for hour in range(-3, 700):
            for room in (1, 2):
                self.check_told(BOOK, room, hour, hour + 1)

    def test_168_hours_over_several_weeks(self):
        for rows in ([("a", 1, 0, 168, 4)], [("a", 1, 100, 268, 2)], [("a", 1, 0, 168, 2), ("b", 1, 336, 504, 2)]):
            for start in (-200, -1, 0, 1, 99, 100, 300, 671):
                for stop in (1, 100, 300, 671, 672, 673, 1000):
                    self.check_told(rows, 1, start, stop)

    def test_bookings_that_touch_leave_no_gap(self):
        rows = [("a", 1, 10, 12, 4), ("b", 1, 12, 100, 4), ("c", 1, 100, 178, 4)]
        self.check(rows, 1, 10, 10 + 4 * WEEK, [])
        self.check(rows, 1, 0, 800, [(0, 10), (682, 800)])

    def test_another_rooms_bookings_are_left_out(self):
        rows = [("a", 1, 10, 12, 4), ("b", 2, 20, 22, 4), ("c", 3, 0, 168, 4)]
        self.check(rows, 1, 0, 100, [(0, 10), (12, 100)])
        self.check(rows, 2, 0, 100, [(0, 20), (22, 100)])
        self.check(rows, 3, 0, 100, [])

    def test_the_book_need_not_be_in_the_order_of_its_hours(self):
        rows = [("c", 1, 300, 310, 1), ("a", 1, 10, 12, 1), ("d", 1, 400, 401, 2), ("b", 1, 100, 110, 1)]
        self.check(rows, 1, 0, 500, [(0, 10), (12, 100), (110, 300), (310, 400), (401, 500)])

    def test_a_booking_that_runs_over_into_the_next_week(self):
        rows = [("a", 1, 160, 180, 3)]
        for start in range(-20, 700, 7):
            self.check_told(rows, 1, start, start + 30)
            self.check_told(rows, 1, start, 720)

    def test_every_stretch_of_a_short_book(self):
        rows = [("a", 1, 3, 5, 2), ("b", 1, 5, 6, 1), ("c", 1, 170, 171, 2), ("d", 1, 9, 170, 1)]
        for start in list(range(-3, 13)) + list(range(165, 182)):
            for stop in list(range(-3, 13)) + list(range(165, 182)) + list(range(330, 350)):
                self.check_told(rows, 1, start, stop)

    def test_many_books_hour_by_hour(self):
        chance = random.Random(81)
        for lengths in ((1, 2, 3), (1, 20, 60), (100, 165, 167, 168), (1, 2, 30, 168)):
            for again in range(40):
                rows = random_book(chance, 40, lengths, (1, 2, 3, 7), chance.choice((168, 500, 2000)))
                for room in (0, 1, 2):
                    start = chance.randrange(-300, 1500)
                    self.check_told(rows, room, start, start + chance.randrange(1, 2500))
                    self.check_told(rows, room, -10, 4000)

    def test_a_full_week_of_short_bookings(self):
        chance = random.Random(82)
        for again in range(10):
            rows = [(str(hour), 1, hour, hour + 1, chance.randrange(3, 9)) for hour in range(WEEK)]
            chance.shuffle(rows)
            self.check_told(rows, 1, -10, 10 * WEEK)
            self.check_told(rows, 1, 100, 100 + 2 * WEEK)

    def test_a_booking_somewhat_longer_than_a_week(self):
        rows = [("long", 1, 10, 180, 3)]
        self.check(rows, 1, 0, 800, [(0, 10), (516, 800)])

    def test_bounds_somewhat_beyond_that_have_no_hour(self):
        rows = [("a", 1, 10, 12, 0), ("b", 1, 20, 20, 2), ("c", 1, 30, 28, 2), ("d", 1, 40, 400, 0)]
        self.check(rows, 1, 0, 800, [(0, 800)])


class VeryLargeNumbers(Told):
    def check(self, rows, room, start, stop, answer):
        self.assertEqual(self.in_time(gaps, rows, room, start, stop), answer)

    def test_late_hours(self):
        rows = [("a", HUGE, HUGE, HUGE + 2, 2)]
        between = (HUGE + 2, HUGE + 168)
        self.check(rows, HUGE, HUGE - 5, HUGE + 200, [(HUGE - 5, HUGE), between, (HUGE + 170, HUGE + 200)])
        self.check(rows, HUGE, -HUGE, HUGE ** 2, [(-HUGE, HUGE), between, (HUGE + 170, HUGE ** 2)])
        self.check(rows, HUGE + 1, -HUGE, HUGE ** 2, [(-HUGE, HUGE ** 2)])

    def test_a_part_of_very_many_weeks(self):
        rows = [("a", 1, 10, 12, HUGE)]
        at = WEEK * (HUGE // 2)
        self.check(rows, 1, at, at + 200, [(at, at + 10), (at + 12, at + 178), (at + 180, at + 200)])
        end = WEEK * HUGE
        self.check(rows, 1, end - WEEK, HUGE ** 2, [(end - WEEK, end - 158), (end - 156, HUGE ** 2)])

    def test_very_many_weeks_without_a_free_hour(self):
        end = WEEK * HUGE
        self.check([("a", 1, 0, 168, HUGE)], 1, -9, end + 9, [(-9, 0), (end, end + 9)])
        rows = [("a", 1, 10, 12, HUGE), ("b", 1, 12, 100, HUGE), ("c", 1, 100, 178, HUGE)]
        self.check(rows, 1, 0, HUGE ** 2, [(0, 10), (end + 10, HUGE ** 2)])

    def test_very_many_weeks_that_end_one_by_one(self):
        rows = [("a", 1, 10, 90, HUGE), ("b", 1, 90, 178, HUGE + 2)]
        end = WEEK * HUGE
        self.check(rows, 1, 50, HUGE ** 2,
                   [(end + 10, end + 90), (end + 178, end + 258), (end + 346, HUGE ** 2)])

    def test_one_behind_the_other_without_a_free_hour(self):
        rows = [("a", 1, 10, 90, HUGE), ("b", 1, 90, 178, HUGE - 1)]
        behind = WEEK * HUGE
        rows += [("c", 1, behind - 78, behind + 90, HUGE)]
        self.check(rows, 1, 10, behind * 2 - 78, [])
        self.check(rows, 1, 9, behind * 2 - 77, [(9, 10), (behind * 2 - 78, behind * 2 - 77)])


class TwoThousand(Told):
    def test_one_behind_the_other(self):
        rows = [(str(place), 1, 3 * place, 3 * place + 2, 1) for place in range(2000)]
        rows = rows[1000:] + rows[:1000]
        answer = self.in_time(gaps, rows, 1, 0, 6000)
        self.assertEqual(answer, [(3 * place + 2, 3 * place + 3) for place in range(2000)])

    def test_all_hours_of_a_week_again_and_again(self):
        rows = []
        for hour in range(WEEK):
            at = hour
            for part in range(11):
                weeks = HUGE + 17 * hour + 31 * part if part < 10 else HUGE ** 2
                rows.append((f"{hour} {part}", 1, at, at + 1, weeks))
                at += WEEK * weeks
        rows += [(str(place), 2, place, place + 1, 1) for place in range(2000 - len(rows))]
        self.assertEqual(len(rows), 2000)
        self.assertEqual(self.in_time(gaps, rows, 1, -3, WEEK * HUGE ** 2), [(-3, 0)])


if __name__ == "__main__":
    unittest.main()
