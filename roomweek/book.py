"""The book: a list of bookings (name, room, start, stop, weeks), in the order in which they were entered."""

from roomweek.errors import NoName, NoSpan, SameName, Taken
from roomweek.free import free_runs
from roomweek.spans import has_hour, is_span, meet


def entered(rows, name, room, start, stop, weeks):
    span = (start, stop, weeks)
    if not is_span(span):
        raise NoSpan("these hours and weeks are no span")
    if place_of(rows, name) is not None:
        raise SameName("a booking with that name is in the book")
    refuse_taken(rows, room, span)
    return rows + [(name, room, start, stop, weeks)]


def crossed(rows, name):
    place = place_named(rows, name)
    return without(rows, place)


def moved(rows, name, room, start):
    place = place_named(rows, name)
    if start < 0:
        raise NoSpan("the new start is below nought")
    row = rows[place]
    stop = start + row[3] - row[2]
    weeks = row[4]
    refuse_taken(without(rows, place), room, (start, stop, weeks))
    return rows[:place] + [(row[0], room, start, stop, weeks)] + rows[place + 1:]


def holder(rows, room, hour):
    for row in rows:
        if row[1] == room and has_hour(span_of(row), hour):
            return row[0]
    return None


def gaps(rows, room, start, stop):
    if stop <= start:
        return []
    return free_runs([span_of(row) for row in rows if row[1] == room], start, stop)


def span_of(row):
    return row[2:]


def place_of(rows, name):
    for place in range(len(rows)):
        if rows[place][0] == name:
            return place
    return None


def place_named(rows, name):
    place = place_of(rows, name)
    if place is None:
        raise NoName("no booking with that name is in the book")
    return place


def without(rows, place):
    return rows[:place] + rows[place + 1:]


def refuse_taken(rows, room, span):
    for row in rows:
        if row[1] == room and meet(span_of(row), span):
            raise Taken("another booking has the room at some of these hours")
