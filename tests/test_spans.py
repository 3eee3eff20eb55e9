import unittest

from told import HUGE, WEEK, hours_of

from roomweek.spans import has_hour, meet


class HasHour(unittest.TestCase):
    def check_hours(self, span, low, high):
        """Hold each hour from low on up to the one ahead of high against the hours told one by one."""
        hours = hours_of(span)
        for hour in range(low, high):
            self.assertIs(has_hour(span, hour), hour in hours, (span, hour))

    def check(self, span, hour, answer):
        self.assertIs(has_hour(span, hour), answer, (span, hour))

    def test_the_hours_of_the_example(self):
        span = (10, 12, 3)
        had = [hour for hour in range(-1000, 3000) if has_hour(span, hour)]
        self.assertEqual(had, [10, 11, 178, 179, 346, 347])
        self.check_hours(span, -1000, 3000)

    def test_edges_in_the_first_week_the_last_one_and_the_one_behind(self):
        span = (30, 40, 5)
        for week in (0, 4):
            self.check(span, WEEK * week + 29, False)
            self.check(span, WEEK * week + 30, True)
            self.check(span, WEEK * week + 39, True)
            self.check(span, WEEK * week + 40, False)
        for hour in (29, 30, 39, 40):
            self.check(span, WEEK * 5 + hour, False)
            self.check(span, hour - WEEK, False)

    def test_one_hour_in_one_week(self):
        self.check_hours((0, 1, 1), -400, 400)
        self.check_hours((167, 168, 1), -400, 600)
        self.check_hours((168, 169, 1), -400, 600)

    def test_a_span_of_168_hours_has_no_gap_between_its_weeks(self):
        span = (5, 173, 3)
        had = [hour for hour in range(-400, 1200) if has_hour(span, hour)]
        self.assertEqual(had, list(range(5, 5 + 3 * WEEK)))
        self.check_hours((0, 168, 1), -400, 600)
        self.check_hours((1000, 1168, 2), 500, 2000)

    def test_many_spans_hour_by_hour(self):
        for start in (0, 1, 100, 167, 168, 169, 400):
            for length in (1, 2, 24, 165, 166, 167, 168):
                for weeks in (1, 2, 4):
                    self.check_hours((start, start + length, weeks), -340, start + WEEK * (weeks + 3))

    def test_hours_below_nought_are_in_no_span(self):
        for span in ((0, 1, 1), (0, 168, 4), (10, 12, 3), (167, 335, HUGE)):
            for hour in list(range(-400, 0)) + [10 - WEEK * HUGE, -HUGE, -WEEK * HUGE]:
                self.check(span, hour, False)

    def test_very_many_weeks(self):
        span = (10, 12, HUGE)
        for week in (0, 1, HUGE // 2, HUGE - 1):
            self.check(span, WEEK * week + 9, False)
            self.check(span, WEEK * week + 10, True)
            self.check(span, WEEK * week + 11, True)
            self.check(span, WEEK * week + 12, False)
        self.check(span, WEEK * HUGE + 10, False)
        self.check(span, WEEK * HUGE + 11, False)

    def test_very_late_hours(self):
        for late in (HUGE, HUGE ** 3):
            span = (late, late + 168, 2)
            self.check(span, late - 1, False)
            self.check(span, late, True)
            self.check(span, late + 2 * WEEK - 1, True)
            self.check(span, late + 2 * WEEK, False)
            self.check((0, 2, 3), late, False)

    def test_somewhat_beyond_the_bounds(self):
        for span in ((3, 172, 2), (3, 400, 3), (-5, 2, 3), (-300, -200, 1)):
            self.check_hours(span, -800, 1500)
        for span in ((3, 3, 2), (5, 3, 2), (3, 5, 0), (3, 5, -2)):
            self.check_hours(span, -800, 1500)


class Meet(unittest.TestCase):
    def check(self, one, other, answer):
        self.assertIs(meet(one, other), answer, (one, other))
        self.assertIs(meet(other, one), answer, (other, one))

    def check_all(self, ones, others):
        """Hold each pair against the hours told one by one."""
        told = [(other, hours_of(other)) for other in others]
        for one in ones:
            hours = hours_of(one)
            for other, other_hours in told:
                self.check(one, other, not hours.isdisjoint(other_hours))

    def test_a_span_meets_itself(self):
        for span in ((0, 1, 1), (10, 12, 3), (5, 173, 2), (HUGE, HUGE + 1, HUGE)):
            self.check(span, span, True)

    def test_meeting_in_some_week_only(self):
        self.check((10, 12, 3), (11, 13, 1), True)
        self.check((10, 12, 3), (179, 181, 1), True)
        self.check((10, 12, 3), (347, 349, 1), True)
        self.check((10, 12, 3), (515, 517, 1), False)
        self.check((10, 12, 3), (346, 348, 9), True)
        self.check((10, 12, 3), (514, 516, 9), False)

    def test_one_within_the_other(self):
        self.check((10, 20, 1), (14, 15, 1), True)
        self.check((10, 20, 2), (182, 183, 1), True)
        self.check((10, 20, 2), (350, 351, 1), False)

    def test_a_span_that_begins_where_the_other_ends(self):
        for weeks in (1, 3, 8):
            for later in range(12):
                begin = 12 + WEEK * later
                self.check((10, 12, 3), (begin, begin + 5, weeks), False)
                self.check((10, 12, 3), (begin - 1, begin + 5, weeks), later < 3)

    def test_a_span_that_fills_the_hours_between(self):
        self.check((10, 12, 4), (12, 178, 4), False)
        self.check((10, 12, 4), (12, 179, 4), True)
        self.check((10, 12, 4), (12, 179, 1), True)
        self.check((10, 12, 1), (12, 179, 4), False)

    def test_whole_weeks_one_behind_the_other(self):
        self.check((0, 168, 3), (504, 672, 2), False)
        self.check((0, 168, 3), (503, 671, 2), True)
        self.check((0, 168, 3), (503, 504, 1), True)

    def test_spans_that_run_over_into_the_next_week(self):
        ones = [(start, start + length, weeks)
                for start in (0, 150, 166) for length in (165, 166, 167, 168) for weeks in (1, 3)]
        others = [(start, start + length, weeks)
                  for start in range(0, 720) for length in (1, 3) for weeks in (1, 2)]
        self.check_all(ones, others)

    def test_two_that_run_over_into_the_next_week(self):
        ones = [(start, start + length, weeks)
                for start in (3, 400) for length in (165, 166, 167, 168) for weeks in (1, 2, 4)]
        others = [(start, start + length, weeks)
                  for start in range(0, 1100, 7) for length in (165, 168) for weeks in (1, 3)]
        self.check_all(ones, others)

    def test_short_spans_at_every_start(self):
        ones = [(start, start + length, weeks)
                for start in (0, 10, 350) for length in (1, 2, 24) for weeks in (1, 3)]
        others = [(start, start + length, weeks)
                  for start in range(0, 720) for length in (1, 5) for weeks in (1, 4)]
        self.check_all(ones, others)

    def test_many_weeks_against_few(self):
        ones = [(20, 23, weeks) for weeks in (1, 2, 30)]
        others = [(start, start + length, weeks)
                  for week in (0, 1, 2, 28, 29, 30, 31)
                  for start in range(WEEK * week + 15, WEEK * week + 27)
                  for length in (1, 4) for weeks in (1, 2, 40)]
        self.check_all(ones, others)

    def test_very_many_weeks_and_very_late_hours(self):
        last = WEEK * (HUGE - 1)
        self.check((10, 12, HUGE), (last + 11, last + 12, 1), True)
        self.check((10, 12, HUGE), (last + 12, last + 13, 1), False)
        self.check((10, 12, HUGE), (last + 9, last + 10, HUGE), False)
        self.check((10, 12, HUGE), (last + 9, last + 11, HUGE), True)
        self.check((10, 12, HUGE), (last + WEEK + 10, last + WEEK + 12, HUGE), False)
        self.check((10, 12, HUGE), (12, 178, HUGE ** 2), False)
        self.check((10, 12, HUGE), (12, 179, HUGE ** 2), True)
        self.check((HUGE, HUGE + 1, 1), (HUGE + 1, HUGE + 2, 1), False)
        self.check((HUGE, HUGE + 2, 1), (HUGE + 1, HUGE + 2, 1), True)

    def test_somewhat_beyond_the_bounds(self):
        ones = [(3, 172, 2), (3, 400, 3), (-5, 2, 3), (3, 3, 2), (5, 3, 2), (3, 5, 0), (3, 5, -2)]
        others = [(start, start + length, weeks)
                  for start in range(-400, 900, 3) for length in (0, 1, 6, 170, 340) for weeks in (0, 1, 3)]
        self.check_all(ones, ones + others)


class NothingIsChanged(unittest.TestCase):
    def test_what_is_handed_in_stays_and_is_answered_the_same_again(self):
        one = (10, 12, 3)
        other = (11, 179, 2)
        for again in range(3):
            self.assertIs(has_hour(one, 178), True)
            self.assertIs(has_hour(one, 180), False)
            self.assertIs(meet(one, other), True)
            self.assertIs(meet(one, (12, 14, 3)), False)
            self.assertEqual((one, other), ((10, 12, 3), (11, 179, 2)))


if __name__ == "__main__":
    unittest.main()
