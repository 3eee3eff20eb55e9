import random
import unittest

from told import HUGE, Told, WEEK, holders, hours_of, random_book

from roomweek.book import crossed, entered, holder, moved
from roomweek.errors import NoName, NoSpan, SameName, Taken

BOOK = [("choir", 1, 10, 12, 3), ("chess", 1, 12, 20, 1), ("dance", 2, 0, 168, 2)]

NO_SPANS = (
    (-1, 5, 1), (-1, 0, 1), (-168, 0, 3), (-HUGE, 10 - HUGE, 2),
    (11, 11, 1), (11, 10, 1), (0, 0, 1), (11, -3, 1), (HUGE, HUGE, 1),
    (0, 169, 1), (11, 180, 2), (HUGE, HUGE + 169, 1), (0, HUGE, 1),
    (11, 12, 0), (11, 12, -1), (11, 12, -HUGE), (0, 168, 0),
)


class Entered(Told):
    def test_the_first_booking(self):
        self.assertEqual(self.kept(entered, [], "choir", 1, 10, 12, 3), [("choir", 1, 10, 12, 3)])

    def test_it_comes_to_the_end(self):
        self.assertEqual(self.kept(entered, BOOK, "art", 0, 1, 2, 1), BOOK + [("art", 0, 1, 2, 1)])
        self.assertEqual(self.kept(entered, BOOK, "zither", 1, 0, 10, 1), BOOK + [("zither", 1, 0, 10, 1)])

    def test_what_is_no_span(self):
        for span in NO_SPANS:
            self.refused(NoSpan, entered, [], "art", 7, *span)
            self.refused(NoSpan, entered, BOOK, "art", 7, *span)

    def test_the_least_and_the_most_that_is_a_span(self):
        for span in ((0, 1, 1), (0, 168, 1), (5, 173, 1), (5, 6, 1), (167, 335, 40), (HUGE, HUGE + 168, HUGE)):
            self.assertEqual(self.kept(entered, [], "art", 7, *span), [("art", 7) + span])

    def test_the_same_name(self):
        for name in ("choir", "chess", "dance"):
            self.refused(SameName, entered, BOOK, name, 7, 50, 51, 1)
            self.refused(SameName, entered, BOOK, name, 1, 50, 51, 1)

    def test_a_name_that_is_only_like_another(self):
        for name in ("Choir", "choi", "choirs", "choir ", " choir", "", "ch\u00e6ss", "1"):
            self.assertEqual(self.kept(entered, BOOK, name, 7, 50, 51, 1)[-1], (name, 7, 50, 51, 1))
        rows = entered([], "", 7, 50, 51, 1)
        self.refused(SameName, entered, rows, "", 7, 51, 52, 1)

    def test_taken(self):
        for span in ((10, 11, 1), (11, 12, 1), (0, 11, 1), (11, 30, 1), (10, 12, 3), (9, 21, 1), (19, 20, 1)):
            self.refused(Taken, entered, BOOK, "art", 1, *span)

    def test_taken_in_some_later_week_only(self):
        for span in ((178, 179, 1), (347, 348, 1), (346, 360, 9), (179, 347, 1)):
            self.refused(Taken, entered, BOOK, "art", 1, *span)
        early = [("late", 1, 1000, 1001, 1)]
        self.refused(Taken, entered, early, "art", 1, 1000 - 5 * WEEK, 1001 - 5 * WEEK, 6)
        self.kept(entered, early, "art", 1, 1000 - 5 * WEEK, 1001 - 5 * WEEK, 5)

    def test_taken_by_the_last_of_many(self):
        rows = [(str(place), 1, place, place + 1, 1) for place in range(100)]
        for place in (0, 50, 99):
            self.refused(Taken, entered, rows, "art", 1, place, place + 1, 1)
        self.kept(entered, rows, "art", 1, 100, 101, 1)

    def test_the_same_hours_in_another_room(self):
        for room in (0, 3, -1, -2, HUGE):
            self.kept(entered, BOOK, "art", room, 10, 12, 3)
            self.kept(entered, BOOK, "art", room, 0, 168, 2)

    def test_the_hours_right_beside_another_booking(self):
        for span in ((20, 21, 1), (0, 10, 1), (9, 10, 3), (348, 349, 1), (345, 346, 1), (514, 516, 3), (180, 346, 1)):
            self.kept(entered, BOOK, "art", 1, *span)
        self.kept(entered, BOOK, "art", 2, 336, 337, 1)
        self.refused(Taken, entered, BOOK, "art", 2, 335, 336, 1)

    def test_no_span_ahead_of_the_same_name(self):
        for span in NO_SPANS:
            self.refused(NoSpan, entered, BOOK, "choir", 7, *span)

    def test_no_span_ahead_of_taken(self):
        for span in NO_SPANS:
            self.refused(NoSpan, entered, BOOK, "art", 1, *span)

    def test_no_span_ahead_of_both(self):
        for span in NO_SPANS:
            self.refused(NoSpan, entered, BOOK, "choir", 1, *span)

    def test_the_same_name_ahead_of_taken(self):
        for name in ("choir", "chess", "dance"):
            self.refused(SameName, entered, BOOK, name, 1, 10, 12, 3)
            self.refused(SameName, entered, BOOK, name, 2, 0, 1, 1)

    def test_very_large_numbers(self):
        rows = self.kept(entered, [], "a", HUGE, HUGE, HUGE + 2, HUGE)
        rows = self.kept(entered, rows, "b", HUGE, HUGE + 2, HUGE + WEEK, HUGE ** 2)
        last = HUGE + WEEK * (HUGE - 1)
        self.refused(Taken, entered, rows, "c", HUGE, last + 1, last + 2, 1)
        rows = self.kept(entered, rows, "c", HUGE, last + WEEK, last + WEEK + 2, HUGE)
        rows = self.kept(entered, rows, "d", HUGE + 1, last + 1, last + 2, 1)
        rows = self.kept(entered, rows, "e", -HUGE, 0, 168, HUGE ** 3)
        self.assertEqual([row[0] for row in rows], ["a", "b", "c", "d", "e"])


class Crossed(Told):
    def test_the_others_stay_in_their_order(self):
        self.assertEqual(self.kept(crossed, BOOK, "choir"), [BOOK[1], BOOK[2]])
        self.assertEqual(self.kept(crossed, BOOK, "chess"), [BOOK[0], BOOK[2]])
        self.assertEqual(self.kept(crossed, BOOK, "dance"), [BOOK[0], BOOK[1]])

    def test_the_last_one(self):
        self.assertEqual(self.kept(crossed, [BOOK[0]], "choir"), [])

    def test_no_such_name(self):
        for name in ("art", "", "Choir", "choir "):
            self.refused(NoName, crossed, BOOK, name)
            self.refused(NoName, crossed, [], name)

    def test_twice(self):
        self.refused(NoName, crossed, crossed(BOOK, "chess"), "chess")

    def test_its_hours_and_its_name_are_free_behind_it(self):
        rows = crossed(BOOK, "choir")
        self.assertEqual(entered(rows, "art", 1, 10, 12, 3)[-1], ("art", 1, 10, 12, 3))
        self.assertEqual(entered(rows, "choir", 1, 9, 12, 3), rows + [("choir", 1, 9, 12, 3)])


class Moved(Told):
    def test_name_place_weeks_and_length_stay(self):
        self.assertEqual(self.kept(moved, BOOK, "choir", 3, 50), [("choir", 3, 50, 52, 3), BOOK[1], BOOK[2]])
        self.assertEqual(self.kept(moved, BOOK, "chess", 3, 0), [BOOK[0], ("chess", 3, 0, 8, 1), BOOK[2]])
        self.assertEqual(self.kept(moved, BOOK, "dance", -4, 9), [BOOK[0], BOOK[1], ("dance", -4, 9, 177, 2)])

    def test_to_another_room_at_the_same_hours(self):
        self.assertEqual(self.kept(moved, BOOK, "choir", 3, 10), [("choir", 3, 10, 12, 3), BOOK[1], BOOK[2]])

    def test_to_what_it_had(self):
        for name, room, start, stop, weeks in BOOK:
            self.assertEqual(self.kept(moved, BOOK, name, room, start), BOOK)

    def test_where_it_meets_only_its_own_old_hours(self):
        self.assertEqual(self.kept(moved, BOOK, "choir", 1, 9)[0], ("choir", 1, 9, 11, 3))
        self.assertEqual(self.kept(moved, BOOK, "chess", 1, 13)[1], ("chess", 1, 13, 21, 1))
        self.assertEqual(self.kept(moved, BOOK, "dance", 2, 1)[2], ("dance", 2, 1, 169, 2))
        self.assertEqual(self.kept(moved, BOOK, "choir", 1, 10 + WEEK)[0], ("choir", 1, 178, 180, 3))

    def test_start_at_nought(self):
        self.assertEqual(self.kept(moved, BOOK, "choir", 1, 0)[0], ("choir", 1, 0, 2, 3))

    def test_no_such_name(self):
        self.refused(NoName, moved, BOOK, "art", 3, 50)
        self.refused(NoName, moved, [], "choir", 1, 10)

    def test_a_start_below_nought(self):
        for start in (-1, -2, -WEEK, -HUGE):
            for name in ("choir", "chess", "dance"):
                self.refused(NoSpan, moved, BOOK, name, 3, start)

    def test_taken(self):
        for start in (11, 12, 19):
            self.refused(Taken, moved, BOOK, "choir", 1, start)
        for start in (3, 10, 11):
            self.refused(Taken, moved, BOOK, "chess", 1, start)
        for start in (0, 100, 335):
            self.refused(Taken, moved, BOOK, "choir", 2, start)
        self.kept(moved, BOOK, "choir", 2, 336)
        self.kept(moved, BOOK, "chess", 1, 2)

    def test_taken_in_some_later_week_only(self):
        self.refused(Taken, moved, BOOK, "chess", 1, 171)
        self.refused(Taken, moved, BOOK, "chess", 1, 347)
        self.kept(moved, BOOK, "chess", 1, 348)
        rows = BOOK + [("late", 1, 50 + 2 * WEEK, 51 + 2 * WEEK, 1)]
        self.refused(Taken, moved, rows, "choir", 1, 50)
        self.refused(Taken, moved, rows, "choir", 1, 49)
        self.kept(moved, rows, "choir", 1, 51)
        self.kept(moved, rows, "choir", 1, 48)

    def test_taken_by_another_though_it_meets_its_own_old_hours_too(self):
        self.refused(Taken, moved, BOOK, "choir", 1, 11)

    def test_the_first_refusal_that_is_named(self):
        self.refused(NoName, moved, BOOK, "art", 3, -1)
        self.refused(NoName, moved, BOOK, "art", 1, 10)
        self.refused(NoName, moved, BOOK, "art", 2, -1)
        self.refused(NoSpan, moved, BOOK, "choir", 2, -1)
        self.refused(NoSpan, moved, BOOK, "chess", 2, -3)

    def test_its_old_hours_are_free_behind_it(self):
        rows = moved(BOOK, "choir", 3, 50)
        self.assertEqual(entered(rows, "art", 1, 10, 12, 3), rows + [("art", 1, 10, 12, 3)])
        self.refused(Taken, entered, rows, "art", 3, 50 + 2 * WEEK, 51 + 2 * WEEK, 1)

    def test_very_large_numbers(self):
        rows = [("a", HUGE, 10, 12, HUGE), ("b", HUGE, 12, 178, HUGE)]
        self.refused(Taken, moved, rows, "a", HUGE, 11)
        end = WEEK * HUGE
        self.refused(Taken, moved, rows, "a", HUGE, end + 9)
        self.assertEqual(self.kept(moved, rows, "a", HUGE, end + 10)[0], ("a", HUGE, end + 10, end + 12, HUGE))
        self.assertEqual(self.kept(moved, rows, "a", -HUGE, 5)[0], ("a", -HUGE, 5, 7, HUGE))

    def test_a_booking_somewhat_longer_than_a_week(self):
        rows = [("long", 1, 0, 170, 2)]
        self.assertEqual(self.kept(moved, rows, "long", 1, 5), [("long", 1, 5, 175, 2)])


class Holder(Told):
    def check(self, rows, room, hour, name):
        before = list(rows)
        self.assertEqual(holder(rows, room, hour), name, (room, hour))
        self.assertEqual(rows, before)

    def test_first_and_last_hour_in_the_first_and_the_last_week(self):
        for week in (0, 2):
            self.check(BOOK, 1, WEEK * week + 9, None)
            self.check(BOOK, 1, WEEK * week + 10, "choir")
            self.check(BOOK, 1, WEEK * week + 11, "choir")
        self.check(BOOK, 1, 12, "chess")
        self.check(BOOK, 1, WEEK + 12, None)
        self.check(BOOK, 1, 2 * WEEK + 12, None)

    def test_the_week_behind_the_last(self):
        for hour in (9, 10, 11, 12):
            self.check(BOOK, 1, 3 * WEEK + hour, None)

    def test_a_booking_of_168_hours(self):
        for hour, name in ((-1, None), (0, "dance"), (167, "dance"), (168, "dance"), (335, "dance"), (336, None)):
            self.check(BOOK, 2, hour, name)

    def test_below_nought(self):
        for hour in list(range(-2 * WEEK, 0)) + [10 - WEEK * HUGE]:
            for room in (1, 2):
                self.check(BOOK, room, hour, None)

    def test_a_room_that_nobody_has(self):
        for room in (0, 3, -1, HUGE):
            for hour in range(-5, 200):
                self.check(BOOK, room, hour, None)
        self.check([], 1, 10, None)

    def test_hour_by_hour(self):
        rows = [("a", 1, 160, 180, 2), ("b", 1, 12, 15, 4), ("c", 1, 20, 100, 1), ("d", 2, 0, 168, 4),
                ("e", 1, 188, 189, 3)]
        for room in (1, 2, 3):
            had = holders(rows, room)
            for hour in range(-400, 1200):
                self.check(rows, room, hour, had.get(hour))

    def test_a_booking_whose_name_is_empty(self):
        self.check([("", 1, 10, 12, 1)], 1, 11, "")

    def test_very_large_numbers(self):
        rows = [("a", HUGE, 10, 12, HUGE), ("b", HUGE, 12, 178, HUGE)]
        last = WEEK * (HUGE - 1)
        for hour, name in ((9, None), (10, "a"), (11, "a"), (12, "b"), (177, "b"), (178, "a"), (last + 9, "b"),
                           (last + 10, "a"), (last + 12, "b"), (last + 177, "b"), (last + 178, None)):
            self.check(rows, HUGE, hour, name)
            self.check(rows, HUGE + 1, hour, None)


class AgainstHoursToldOneByOne(Told):
    """Every entering and moving of a small book, held against the hours of its rooms."""

    def test_entered(self):
        chance = random.Random(51)
        for again in range(40):
            rows = []
            for number in range(25):
                start = chance.randrange(400)
                span = (start, start + chance.choice((1, 2, 5, 30, 100, 168)), chance.choice((1, 1, 2, 4)))
                room = chance.randrange(2)
                free = hours_of(span).isdisjoint(holders(rows, room))
                if free:
                    rows = self.kept(entered, rows, str(number), room, *span)
                    self.assertEqual(rows[-1], (str(number), room) + span)
                else:
                    self.refused(Taken, entered, rows, str(number), room, *span)
                self.check_book(rows)

    def test_moved(self):
        chance = random.Random(52)
        for again in range(20):
            rows = random_book(chance, 40, (1, 2, 5, 30), (1, 2, 4), 400)
            for number in range(30):
                place = chance.randrange(len(rows))
                name, room, start, stop, weeks = rows[place]
                room = chance.randrange(2)
                begin = max(0, start + chance.choice((-WEEK, -2, -1, 0, 1, 2, WEEK)))
                span = (begin, begin + stop - start, weeks)
                others = rows[:place] + rows[place + 1:]
                if hours_of(span).isdisjoint(holders(others, room)):
                    new = self.kept(moved, rows, name, room, begin)
                    self.assertEqual(new, rows[:place] + [(name, room) + span] + rows[place + 1:])
                    rows = new
                else:
                    self.refused(Taken, moved, rows, name, room, begin)
                self.check_book(rows)


class TwoThousand(Told):
    """Twelve weeks of one hour each, so close that the room is had all the time."""

    starts = [place % WEEK + 12 * WEEK * (place // WEEK) for place in range(2000)]
    rows = [(str(place), 1, start, start + 1, 12) for place, start in enumerate(starts)]

    def test_entered(self):
        free = 12 * WEEK * 12
        self.assertEqual(len(self.in_time(entered, self.rows, "art", 1, free, free + 100, 9)), 2001)
        self.refused(SameName, entered, self.rows, "1999", 1, free, free + 100, 9)
        self.refused(Taken, entered, self.rows, "art", 1, self.rows[-1][2], self.rows[-1][2] + 1, 1)

    def test_crossed(self):
        self.assertEqual(self.in_time(crossed, self.rows, "1999"), self.rows[:-1])
        self.refused(NoName, crossed, self.rows, "2000")

    def test_moved(self):
        free = 12 * WEEK * 12
        self.assertEqual(self.in_time(moved, self.rows, "0", 1, free)[0], ("0", 1, free, free + 1, 12))
        self.refused(Taken, moved, self.rows, "0", 1, self.rows[-1][2])

    def test_holder(self):
        for name, room, start, stop, weeks in (self.rows[0], self.rows[1000], self.rows[-1]):
            self.assertEqual(self.in_time(holder, self.rows, 1, start + 11 * WEEK), name)


if __name__ == "__main__":
    unittest.main()
