"""What the tests share: hours told one by one, and calls that are held to change nothing."""

import time
import unittest

WEEK = 168
HUGE = 10 ** 21 + 7
SECONDS = 10


def hours_of(span):
    """The hours of a span, told one by one."""
    start, stop, weeks = span
    return {hour + WEEK * week for week in range(weeks) for hour in range(start, stop)}


def holders(rows, room):
    """Who has the room, for each hour that it is had at; fails where two have it at once."""
    had = {}
    for name, of_room, start, stop, weeks in rows:
        if of_room == room:
            for hour in hours_of((start, stop, weeks)):
                if hour in had:
                    raise AssertionError(f"hour {hour} of room {room}: {had[hour]} and {name}")
                had[hour] = name
    return had


def random_book(chance, size, lengths, weeks, late):
    """Bookings of two rooms, so many as are free of those that are drawn, told hour by hour."""
    rows = []
    had = {0: set(), 1: set()}
    for number in range(size):
        start = chance.randrange(late)
        span = (start, start + chance.choice(lengths), chance.choice(weeks))
        room = chance.randrange(2)
        if had[room].isdisjoint(hours_of(span)):
            had[room] |= hours_of(span)
            rows.append((str(number), room) + span)
    return rows


class Told(unittest.TestCase):
    def kept(self, function, given, *rest):
        """The answer of a call that must leave its list as it was, and must not give back that very list."""
        before = list(given)
        answer = function(given, *rest)
        self.assertEqual(given, before)
        self.assertIsNot(answer, given)
        return answer

    def refused(self, refusal, function, given, *rest):
        """A call that must be refused in just this way, and must leave its list as it was."""
        before = list(given)
        with self.assertRaises(refusal) as caught:
            function(given, *rest)
        self.assertIs(type(caught.exception), refusal, rest)
        self.assertEqual(given, before)

    def in_time(self, function, *given):
        """The answer of a call that must not take longer than some seconds."""
        begin = time.process_time()
        answer = function(*given)
        self.assertLess(time.process_time() - begin, SECONDS, function.__name__)
        return answer

    def check_book(self, rows):
        """Hold that no name stands twice and no room is had twice at an hour."""
        names = [row[0] for row in rows]
        self.assertEqual(len(names), len(set(names)))
        for room in {row[1] for row in rows}:
            holders(rows, room)
