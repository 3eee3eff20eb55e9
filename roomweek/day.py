"""Deeds, done one after the other on a book that is empty at the beginning."""

from roomweek.book import crossed, entered, moved
from roomweek.errors import NoName, NoSpan, SameName, Taken


def answers(deeds):
    return all_done(deeds)[0]


def book_behind(deeds):
    return all_done(deeds)[1]


# The answers and the book come from the same steps, so neither can tell of other deeds than the other.
def all_done(deeds):
    said = []
    rows = []
    for deed in deeds:
        step = tried(rows, deed)
        said.append(step[0])
        rows = step[1]
    return (said, rows)


def tried(rows, deed):
    try:
        return ("done", book_after(rows, deed))
    except NoSpan:
        return ("no span", rows)
    except SameName:
        return ("same name", rows)
    except Taken:
        return ("taken", rows)
    except NoName:
        return ("no name", rows)


def book_after(rows, deed):
    if deed[0] == "book":
        return entered(rows, deed[1], deed[2], deed[3], deed[4], deed[5])
    if deed[0] == "cancel":
        return crossed(rows, deed[1])
    return moved(rows, deed[1], deed[2], deed[3])
