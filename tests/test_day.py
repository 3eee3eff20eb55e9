import random
import unittest

from told import HUGE, Told, WEEK, holders, hours_of

from roomweek.day import answers, book_behind


def told_day(deeds):
    """The answers and the book, from the hours told one by one."""
    said = []
    rows = []
    for deed in deeds:
        answer, rows = told_deed(rows, deed)
        said.append(answer)
    return said, rows


def told_deed(rows, deed):
    names = [row[0] for row in rows]
    name = deed[1]
    if deed[0] == "book":
        span = deed[3:]
        if span[0] < 0 or not 1 <= span[1] - span[0] <= WEEK or span[2] < 1:
            return "no span", rows
        if name in names:
            return "same name", rows
        if not hours_of(span).isdisjoint(holders(rows, deed[2])):
            return "taken", rows
        return "done", rows + [deed[1:]]
    if name not in names:
        return "no name", rows
    place = names.index(name)
    others = rows[:place] + rows[place + 1:]
    if deed[0] == "cancel":
        return "done", others
    room, start = deed[2:]
    if start < 0:
        return "no span", rows
    span = (start, start + rows[place][3] - rows[place][2], rows[place][4])
    if not hours_of(span).isdisjoint(holders(others, room)):
        return "taken", rows
    return "done", others[:place] + [(name, room) + span] + others[place:]


def random_deed(chance):
    name = chance.choice("abcdefgh")
    room = chance.randrange(2)
    start = chance.randrange(-3, 300)
    kind = chance.randrange(5)
    if kind == 0:
        return ("cancel", name)
    if kind == 1:
        return ("move", name, room, start)
    return ("book", name, room, start, start + chance.choice((-1, 0, 1, 2, 20, 60, 168, 169)), chance.randrange(4))


class Deeds(Told):
    def check(self, deeds, said, rows):
        self.assertEqual(self.kept(answers, deeds), said)
        self.assertEqual(self.kept(book_behind, deeds), rows)

    def test_no_deeds(self):
        self.check([], [], [])

    def test_each_deed_done(self):
        deeds = [("book", "a", 1, 10, 12, 3), ("book", "b", 1, 12, 20, 1), ("move", "a", 2, 50), ("cancel", "b")]
        self.check(deeds[:1], ["done"], [("a", 1, 10, 12, 3)])
        self.check(deeds[:2], ["done"] * 2, [("a", 1, 10, 12, 3), ("b", 1, 12, 20, 1)])
        self.check(deeds[:3], ["done"] * 3, [("a", 2, 50, 52, 3), ("b", 1, 12, 20, 1)])
        self.check(deeds, ["done"] * 4, [("a", 2, 50, 52, 3)])

    def check_refused(self, deed, answer):
        """A refused deed changes nothing: the book is as it was, and what comes behind is done on it."""
        ahead = [("book", "a", 1, 10, 12, 3), ("book", "b", 1, 12, 20, 1)]
        rows = [("a", 1, 10, 12, 3), ("b", 1, 12, 20, 1)]
        self.check(ahead + [deed], ["done", "done", answer], rows)
        self.check(ahead + [deed, ("cancel", "a")], ["done", "done", answer, "done"], rows[1:])

    def test_book_refused(self):
        for span in ((-1, 3, 1), (11, 11, 1), (11, 10, 1), (0, 169, 1), (11, 12, 0)):
            for name in ("a", "c"):
                for room in (1, 2):
                    self.check_refused(("book", name, room) + span, "no span")
        self.check_refused(("book", "a", 2, 10, 12, 3), "same name")
        self.check_refused(("book", "a", 1, 10, 12, 3), "same name")
        self.check_refused(("book", "c", 1, 10, 12, 3), "taken")
        self.check_refused(("book", "c", 1, 347, 349, 1), "taken")

    def test_cancel_refused(self):
        self.check_refused(("cancel", "c"), "no name")
        self.check_refused(("cancel", ""), "no name")

    def test_move_refused(self):
        self.check_refused(("move", "c", 2, 0), "no name")
        self.check_refused(("move", "c", 1, -1), "no name")
        self.check_refused(("move", "c", 1, 10), "no name")
        self.check_refused(("move", "a", 2, -1), "no span")
        self.check_refused(("move", "a", 1, 11), "taken")
        self.check_refused(("move", "b", 1, 171), "taken")

    def test_refused_on_an_empty_book(self):
        self.check([("cancel", "a"), ("move", "a", 1, 0), ("book", "a", 1, 5, 5, 1), ("cancel", "a")],
                   ["no name", "no name", "no span", "no name"], [])

    def test_what_is_freed_can_be_had_again(self):
        self.check([("book", "a", 1, 10, 12, 3), ("cancel", "a"), ("book", "b", 1, 10, 12, 3),
                    ("book", "a", 1, 9, 10, 1)],
                   ["done"] * 4, [("b", 1, 10, 12, 3), ("a", 1, 9, 10, 1)])
        self.check([("book", "a", 1, 10, 12, 3), ("move", "a", 1, 12), ("book", "b", 1, 10, 12, 3)],
                   ["done"] * 3, [("a", 1, 12, 14, 3), ("b", 1, 10, 12, 3)])

    def test_each_call_begins_with_an_empty_book(self):
        deeds = [("book", "a", 1, 10, 12, 3)]
        for again in range(3):
            self.check(deeds, ["done"], [("a", 1, 10, 12, 3)])
            book_behind(deeds).append("more")
            answers(deeds).append("more")
            book_behind([]).append("more")

    def test_very_large_numbers(self):
        self.check([("book", "a", HUGE, HUGE, HUGE + 168, HUGE), ("book", "b", HUGE, HUGE * 169, HUGE * 169 + 1, 1),
                    ("book", "c", HUGE, HUGE * 169 - 1, HUGE * 169, 1), ("move", "a", -HUGE, HUGE ** 2),
                    ("move", "b", HUGE, -HUGE), ("book", "d", 0, 0, 168, -HUGE), ("cancel", "b")],
                   ["done", "done", "taken", "done", "no span", "no span", "done"],
                   [("a", -HUGE, HUGE ** 2, HUGE ** 2 + 168, HUGE)])

    def test_many_days_against_hours_told_one_by_one(self):
        chance = random.Random(91)
        seen = set()
        for again in range(150):
            deeds = [random_deed(chance) for number in range(60)]
            said, rows = told_day(deeds)
            seen.update((deed[0], answer) for deed, answer in zip(deeds, said))
            self.check(deeds, said, rows)
            self.check_book(book_behind(deeds))
        self.assertEqual(len(seen), 4 + 2 + 4)

    def test_no_hour_twice_behind_any_of_the_deeds(self):
        chance = random.Random(92)
        for again in range(10):
            deeds = [random_deed(chance) for number in range(60)]
            for many in range(len(deeds) + 1):
                self.check_book(book_behind(deeds[:many]))


class TwoThousand(Told):
    def check(self, deeds, said, rows):
        self.assertEqual(len(deeds), 2000)
        self.assertEqual(self.in_time(answers, deeds), said)
        self.assertEqual(self.in_time(book_behind, deeds), rows)

    def test_bookings_of_one_room(self):
        rows = [(str(place), 1, 3 * place, 3 * place + 3, 1) for place in range(2000)]
        self.check([("book",) + row for row in rows], ["done"] * 2000, rows)

    def test_moves_and_refusals(self):
        rows = [(str(place), 1, 3 * place, 3 * place + 3, 1) for place in range(1000)]
        ahead = [("book",) + row for row in rows]
        self.check(ahead + [("move", row[0], 1, row[2] + 3000) for row in rows[::-1]],
                   ["done"] * 2000, [(row[0], 1, row[2] + 3000, row[3] + 3000, 1) for row in rows])
        self.check(ahead + [("book", "late", 1, 2999, 3000, 1)] * 1000, ["done"] * 1000 + ["taken"] * 1000, rows)
        self.check(ahead + [("cancel", "late")] * 1000, ["done"] * 1000 + ["no name"] * 1000, rows)
        self.check(ahead + [("cancel", row[0]) for row in rows[::-1]], ["done"] * 2000, [])


if __name__ == "__main__":
    unittest.main()
