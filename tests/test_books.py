"""Promise 28: the first lie of a book, by a second telling of it."""

import copy
import unittest

from kinds import KindCase
from plain_book import plain_first_lie
from samples import chance_given, clocks, net, spout, vessel
from tipwell.books import first_lie
from tipwell.layouts import bell_for, counter
from tipwell.runs import Run

FAR = 10 ** 60 - 1
# Rows of anything.
NO_ROWS = (
    None, True, False, 0, 1, -1, FAR, "", "pour", "go", "pour 0 1", "go 1", [], (), ["pour", 0, 1], ["go", 0, ()],
    ("pour",), ("go",), ("pour", 0), ("go", 0), ("go", 1), ("pour", 0, 1, 1), ("go", 0, (), ()), ("Pour", 0, 1),
    ("fill", 0, 1), ("", 0, 1), (None, 0, 1), (True, 0, 1), (0, 0, 1), (["pour"], 0, 1), (("pour",), 0, 1),
    ("pour", None, 1), ("pour", True, 1), ("pour", False, 1), ("pour", "0", 1), ("pour", [0], 1), ("pour", (0,), 1),
    ("pour", 0, None), ("pour", 0, True), ("pour", 0, False), ("pour", 0, "1"), ("pour", 0, [1]), ("pour", 0, (1,)),
    ("pour", 0, -1), ("pour", 0, 1001), ("pour", 0, FAR), ("pour", 0, -FAR), ("pour", -1, 1), ("pour", 12, 1),
    ("pour", 99, 1), ("pour", FAR, 1), ("pour", -FAR, 1), ("pour", -2, 0), ("go", None, ()), ("go", False, ()),
    ("go", "0", ()), ("go", [], ()), ("go", (), ()), ("go", 0, []), ("go", 0, None), ("go", 0, False), ("go", 0, 0),
    ("go", 0, ""), ("go", 0, ((),)), ("go", 0, (0,)), ("go", 0, ((0, 0),)), ("go", -1, ()), ("go", -FAR, ()),
    ("go", FAR, ()), ("go", 3001, ()), ("go", 10 ** 9, ()), ("pour", 0, ()), ("go", (), 0), ("back", 0, 0),
    ("tips", 0, ()),
)


def chance_run(chance, given, rows, most_ticks=12):
    """A run with so many rows, within its bounds."""
    run, waiting = Run(given), {}
    for _ in range(rows):
        number = chance.randrange(len(given[0]))
        if chance.random() < 0.5:
            amount = chance.choice((0, 1, 1000, chance.randint(0, 60)))
            amount = min(amount, 1000 - waiting.get(number, 0))
            run.pour(number, amount)
            waiting[number] = waiting.get(number, 0) + amount
        else:
            many = chance.randint(0, most_ticks)
            run.go(many)
            waiting = {} if many else waiting
    return run


def other_tipped(chance, tipped):
    """The tips with one more, one fewer, one on by one, in another kind, or two exchanged."""
    pairs = list(tipped)
    place = chance.randrange(len(pairs)) if pairs else 0
    tick, number = pairs[place] if pairs else (0, 0)
    yield tuple(pairs[:place] + [(tick, number)] + pairs[place:])
    yield tuple(pairs + [(tick + 1, number)])
    yield list(pairs)
    yield None
    if pairs:
        yield tuple(pairs[:place] + pairs[place + 1:])
        for other in (
            (tick + 1, number), (tick - 1, number), (tick, number + 1), (tick, number - 1), [tick, number],
            (tick, number, 0), (tick,), (), None, tick, (str(tick), number), (bool(tick), number), (tick, bool(number)),
            (tick, None), (number, tick), ((tick, number),),
        ):
            yield tuple(pairs[:place] + [other] + pairs[place + 1:])
        yield tuple(pairs[::-1])
        yield tuple(pairs[:place] + pairs[place + 1:] + pairs[place:place + 1])


def other_rows(chance, row, many):
    """The row with one thing otherwise."""
    word, what, last = row
    yield list(row)
    yield row[:2]
    yield row + (0,)
    for other in (what + 1, what - 1, bool(what), str(what), None, [what], many, many + 1, -1, 3001, FAR):
        yield (word, other, last)
    yield ("go" if word == "pour" else "pour", what, last)
    if word == "pour":
        for other in (last + 1, last - 1, bool(last), str(last), None, [last], 1001, -1, FAR, ()):
            yield (word, what, other)
    else:
        for other in other_tipped(chance, last):
            yield (word, what, other)


class BookCase(KindCase):
    def check(self, given, book):
        kept = copy.deepcopy(book)
        told = first_lie(given, book)
        self.assertEqual(told, plain_first_lie(given, book))
        self.assertTrue(told is None or type(told) is int)
        self.assertEqual(repr(book), repr(kept))
        return told

    def assert_lie(self, given, book, due):
        self.assertEqual(self.check(given, book), due)


class NoLie(BookCase):
    def test_an_empty_book(self):
        for given in (net(vessel()), counter([3, 2])):
            self.assert_lie(given, [], None)

    def test_by_hand(self):
        given = counter([2, 2])
        self.assert_lie(given, [("go", 5, ((1, 0), (3, 0), (4, 1)))], None)
        self.assert_lie(given, [("go", 2, ((1, 0),)), ("pour", 1, 1), ("go", 1, ((2, 1),)), ("go", 0, ())], None)

    def test_books_that_runs_tell(self):
        for seed in range(120):
            chance, given = chance_given(seed)
            self.assert_lie(given, chance_run(chance, given, chance.randint(0, 25)).book(), None)

    def test_what_was_taken_back_is_no_row(self):
        for seed in range(40):
            chance, given = chance_given(seed)
            run = chance_run(chance, given, 12)
            for _ in range(chance.randint(1, 12)):
                run.back()
            run.go(3)
            self.assert_lie(given, run.book(), None)

    def test_200_rows(self):
        for seed in range(6):
            chance, given = chance_given(seed)
            book = chance_run(chance, given, 200, 30).book()
            self.assertEqual(len(book), 200)
            self.assert_lie(given, book, None)
            self.assert_lie(given, book[:199] + [("go", 0, [])], 199)

    def test_nothing_poured_and_nothing_gone(self):
        self.assert_lie(counter([2, 2]), [("pour", 1, 0), ("go", 0, ()), ("pour", 0, 0), ("go", 0, ())] * 10, None)


class OneThingOtherwise(BookCase):
    def test_a_row_left_out_told_twice_or_exchanged(self):
        lies = 0
        for seed in range(60):
            chance, given = chance_given(seed)
            book = chance_run(chance, given, 10).book()
            for place in range(len(book)):
                for other in (
                    book[:place] + book[place + 1:],
                    book[:place + 1] + book[place:],
                    book[:place] + book[place:place + 2][::-1] + book[place + 2:],
                ):
                    lies += self.check(given, other) is not None
        self.assertGreater(lies, 200)

    def test_a_row_with_one_thing_otherwise(self):
        seen = {"no lie": 0, "there": 0, "later": 0}
        for seed in range(25):
            chance, given = chance_given(seed)
            book = chance_run(chance, given, 7, 6).book()
            for place, row in enumerate(book):
                for other in other_rows(chance, row, len(given[0])):
                    told = self.check(given, book[:place] + [other] + book[place + 1:])
                    seen["no lie" if told is None else "there" if told == place else "later"] += 1
        self.assertGreater(min(seen.values()), 20, seen)

    def test_a_row_of_anything(self):
        given = counter([2, 2])
        book = [("pour", 0, 3), ("go", 2, ((0, 0),)), ("pour", 1, 1), ("go", 1, ((2, 0), (2, 1)))]
        self.assert_lie(given, book, None)
        for row in NO_ROWS:
            for place in range(len(book) + 1):
                with self.subTest(row=row, place=place):
                    self.assert_lie(given, book[:place] + [row] + book[place:], place)
            self.assert_lie(given, [row], 0)

    def test_of_two_lies_the_first(self):
        given = counter([2, 2])
        for book, due in (
            ([("go", 1, ((0, 0),)), ("go", 1, ())], 0), ([("go", 1, ()), None, ("go", 9, ())], 1),
            ([("pour", 9, 1), ("pour", 0, 1001)], 0), ([("go", 0, ()), ("go", 3001, ()), ("go", 1, ())], 1),
        ):
            self.assert_lie(given, book, due)

    def test_truths_for_numbers_in_what_tipped(self):
        given = clocks(1, 1)
        for tipped, due in (
            (((0, 0), (0, 1), (1, 0), (1, 1)), None), (((False, 0), (0, 1), (1, 0), (1, 1)), 0),
            (((0, False), (0, 1), (1, 0), (1, 1)), 0), (((0, 0), (0, True), (1, 0), (1, 1)), 0),
            (((0, 0), (0, 1), (True, 0), (1, 1)), 0), (((0, 0), (0, 1), (1, 0), (1, True)), 0),
            (((0, 1), (0, 0), (1, 0), (1, 1)), 0), (((0, 0), (1, 0), (0, 1), (1, 1)), 0),
            (((0, 0), (0, 1), (1, 0)), 0), (((0, 0), (0, 1), (1, 0), (1, 1), (2, 0)), 0),
        ):
            self.assert_lie(given, [("go", 2, tipped)], due)

    def test_told_of_another_net(self):
        self.assert_lie(counter([3, 2]), Run(counter([3, 2])).book(), None)
        run = Run(counter([2, 2]))
        for _ in range(4):
            run.go(1)
        self.assert_lie(counter([3, 2]), run.book(), 1)


class Bounds(BookCase):
    def test_1000_in_all_for_a_vessel_and_a_tick(self):
        given = net(vessel(), vessel())
        fill = [("pour", 0, 1000)]
        self.assert_lie(given, fill, None)
        self.assert_lie(given, fill + [("pour", 0, 0)], None)
        self.assert_lie(given, fill + [("pour", 0, 1)], 1)
        self.assert_lie(given, fill + [("pour", 1, 1000), ("pour", 1, 0)], None)
        self.assert_lie(given, [("pour", 1, 400), ("pour", 0, 1000), ("pour", 1, 600), ("pour", 1, 1)], 3)
        self.assert_lie(given, fill + [("go", 0, ()), ("pour", 0, 1)], 2)
        self.assert_lie(given, fill + [("go", 1, ((0, 0),)), ("pour", 0, 1000)], None)
        self.assert_lie(given, fill + [("go", 1, ((0, 0),)), ("pour", 0, 1000), ("pour", 0, 1)], 3)

    def test_3000_ticks_in_all(self):
        given = net(vessel())
        self.assert_lie(given, [("go", 3000, ())], None)
        self.assert_lie(given, [("go", 3000, ()), ("go", 0, ())], None)
        self.assert_lie(given, [("go", 3001, ())], 0)
        self.assert_lie(given, [("go", 3000, ()), ("go", 1, ())], 1)
        self.assert_lie(given, [("go", 1500, ()), ("pour", 0, 1), ("go", 1500, ()), ("go", 1, ())], 3)
        self.assert_lie(given, [("go", 15, ())] * 200, None)
        self.assert_lie(given, [("go", 30, ())] * 101, 100)

    def test_a_pouring_behind_the_3000th(self):
        given = net(vessel())
        self.assert_lie(given, [("go", 3000, ()), ("pour", 0, 1000)], None)
        self.assert_lie(given, [("go", 3000, ()), ("pour", 0, 1000), ("pour", 0, 1)], 2)

    def test_a_run_gone_to_its_end(self):
        run = Run(bell_for([2, 30]))
        run.go(2999)
        run.pour(0, 1000)
        run.go(1)
        run.pour(0, 5)
        self.assert_lie(bell_for([2, 30]), run.book(), None)

    def test_vessels_that_there_are_not(self):
        for given in (net(vessel()), counter([3, 2]), net(*[vessel()] * 12, spouts=(spout(),))):
            many = len(given[0])
            for number in (-1, -many, many, many + 1, FAR, -FAR):
                self.assert_lie(given, [("pour", 0, 1), ("pour", number, 1)], 1)
                self.assert_lie(given, [("pour", many - 1, 1), ("pour", number, 0)], 1)

    def test_a_going_far_beyond_is_told_at_once(self):
        self.assert_lie(clocks(1), [("go", FAR, ())], 0)

    def test_more_rows_than_200(self):
        self.assert_lie(net(vessel()), [("go", 0, ())] * 250, None)


class Kept(BookCase):
    def test_what_is_handed_in_stays(self):
        book = [("go", 1, ()), ["pour", 0, [1]], {"no": "row"}]
        self.assertEqual(first_lie(clocks(3), book), 1)
        self.assertEqual(book, [("go", 1, ()), ["pour", 0, [1]], {"no": "row"}])


if __name__ == "__main__":
    unittest.main()
