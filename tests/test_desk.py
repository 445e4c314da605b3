"""Promise 18: a desk's answers and refusals, by a run and the functions asked beside, and by a second telling."""

import unittest

from kinds import KindCase
from plain_desk import PlainDesk
from samples import CLOCK_2001, chance_given, clocks, hand_counter, net, spout, vessel, with_idle
from tipwell.desk import Desk
from tipwell.errors import NoRow, NoText, Nothing, NoVessel, TooLong, TooMany, TooMuch
from tipwell.layouts import bell_for, counter
from tipwell.rounds import round_of
from tipwell.runs import Run
from tipwell.stuck import stuck
from tipwell.texts import net_text

WORDS = (
    "pour", "go", "held", "coming", "doors", "tick", "came", "grounded", "tips", "back", "round", "stuck", "soonest",
)
COUNTS = {"pour": 2, "go": 1, "tips": 1, "stuck": 1, "soonest": 2}
# Nobody tips and nothing flows, so that a long way is gone fast.
STILL = net(vessel(), vessel())
NO_ROWS = (
    "", " ", "\n", "  ", "fill", "Held", "HELD", "held ", " held", "held\n", "\nheld", "held 0", "held held", "hel",
    "held,coming", "go", "go ", "go  1", " go 1", "go 1 ", "go 1 1", "go -1", "go -0", "go +1", "go 01", "go 00",
    "go 1.0", "go one", "go 1\n", "go\n1", "go 1000000000", "go 9999999999", "go " + "9" * 60, "go " + "1" * 5000,
    "go 1_0", "go 0x1", "pour", "pour 0", "pour 0 ", "pour 0 1 1", "pour  0 1", "pour 0  1", "pour 0 01", "pour 00 1",
    "pour -1 1", "pour 0 -1", "pour 0 +1", "pour +0 1", "pour 0 1000000000", "pour 1000000000 0", "pour a 1",
    "pour 0 a", "pour 0,1", "Pour 0 1", "tips", "tips ", "tips 0 0", "tips 00", "tips -1", "tips a", "tips 1000000000",
    "doors 0", "tick 0", "came 0", "grounded 0", "coming 0", "back 1", "back ", "round 0", "rounds", "stuck",
    "stuck 00", "stuck 0 0", "stuck -1", "stuck 1000000000", "soonest", "soonest 0", "soonest 0 6", "soonest 0 00",
    "soonest 0 05", "soonest 0 -1", "soonest 0 5 5", "soonest 0 10", "soonest 0 999999999", "soonest 00 1",
    "soonest 1000000000 1", "state", "book", "say", "none", "ok", "tip 0", "stick 0", "soon 0 1", "pour 0 1;go 1",
    "pour 0 1\ngo 1",
)
NO_TEXTS = (None, True, False, 0, 1, -1, 10 ** 59, [], (), ["held"], ("held",), [["go", 1]], ("go", 1))


def desk_of(given):
    return Desk(net_text(given))


def asked(given, many_most=3):
    """All rows that ask about a run of the net."""
    rows = ["held", "coming", "doors", "tick", "came", "grounded", "round"]
    for number in range(len(given[0])):
        rows += [f"tips {number}", f"stuck {number}"]
        rows += [f"soonest {number} {most}" for most in range(many_most)]
    return rows


class DeskCase(KindCase):
    def assert_answer(self, desk, row, due):
        told = desk.say(row)
        self.assertEqual(told, due)
        self.assertIs(type(told), str)

    def check(self, desk, plain, row):
        due = plain.say(row)
        if isinstance(due, str):
            self.assert_answer(desk, row, due)
        else:
            self.assert_refused(due, desk.say, row)
        return due

    def all_told(self, desk, given):
        return [desk.say(row) for row in ["held", "coming", "doors", "tick", "came", "grounded"]] + [
            desk.say(f"tips {number}") for number in range(len(given[0]))
        ]

    def assert_kept(self, desk, given, due, row):
        """Refused, and nothing is changed by it."""
        ahead = self.all_told(desk, given)
        self.assert_refused(due, desk.say, row)
        self.assertEqual(self.all_told(desk, given), ahead)


class Texts(DeskCase):
    def test_a_text_that_writes_no_net(self):
        for text in ("", " ", "held", "vessel", "spout 0 1 open", "vessel 0 1 ground*1 loses ground -",
                     "vessel 1 1 ground*1 loses ground -\n", "vessel 1 1 ground*1 loses ground - "):
            self.assert_refused(NoText, Desk, text)

    def test_what_is_no_text(self):
        for thing in NO_TEXTS + (clocks(2),):
            self.assert_refused(NoText, Desk, thing)


class Answers(DeskCase):
    def test_by_hand(self):
        desk = Desk("vessel 3 9 1*2,ground*1 holds ground shut.1\nvessel 4 4 ground*1 loses ground -\n"
                    "spout 0 1 open\nspout 1 0 open")
        for row, due in (
            ("tick", "0"), ("held", "0 0"), ("coming", "0 0"), ("doors", "open open"), ("came", "0"), ("grounded", "0"),
            ("tips 0", "none"), ("tips 1", "none"), ("pour 0 6", "ok"), ("held", "0 0"), ("came", "0"), ("go 1", "ok"),
            ("tick", "1"), ("held", "1 0"), ("coming", "0 4"), ("doors", "open shut"), ("came", "7"), ("grounded", "2"),
            ("tips 0", "0"), ("go 2", "ok"), ("held", "0 0"), ("coming", "0 2"), ("tips 0", "0 2"), ("tips 1", "1"),
            ("came", "9"), ("grounded", "7"), ("back", "ok"), ("tick", "1"), ("back", "ok"), ("back", "ok"),
            ("tick", "0"), ("tips 0", "none"), ("came", "0"), ("doors", "open open"),
        ):
            self.assert_answer(desk, row, due)
        self.assert_refused(Nothing, desk.say, "back")

    def test_rounds_stuck_vessels_and_soonest_rows(self):
        desk = desk_of(counter([3, 2]))
        for row, due in (
            ("round", "1 6"), ("stuck 0", "6 1"), ("stuck 1", "none"), ("soonest 0 0", "0 0 0"), ("soonest 0 1", "0 1"),
            ("soonest 1 2", "2 2 0"), ("soonest 1 5", "2 2 0"),
        ):
            self.assert_answer(desk, row, due)

    def test_of_the_net_and_not_of_where_the_run_is(self):
        desk = desk_of(counter([3, 2]))
        ahead = [desk.say(row) for row in ("round", "stuck 0", "stuck 1", "soonest 0 1", "soonest 1 2")]
        for row in ("pour 0 2", "go 7", "pour 1 1"):
            desk.say(row)
            told = [desk.say(row) for row in ("round", "stuck 0", "stuck 1", "soonest 0 1", "soonest 1 2")]
            self.assertEqual(told, ahead)

    def test_never(self):
        desk = desk_of(net(vessel(), vessel(1, 1)))
        self.assert_answer(desk, "soonest 1 5", "never")
        self.assert_answer(desk, "soonest 0 0", "never")
        self.assert_answer(desk, "soonest 0 5", "5")
        self.assert_answer(desk, "soonest 0 2", "1 2 2")

    def test_a_net_without_spouts(self):
        desk = desk_of(net(vessel(2, 2)))
        for row, due in (("doors", "none"), ("pour 0 3", "ok"), ("go 1", "ok"), ("doors", "none"), ("tips 0", "0")):
            self.assert_answer(desk, row, due)

    def test_each_by_a_run_beside(self):
        for seed in range(40):
            chance, given = chance_given(seed)
            desk, run = desk_of(given), Run(given)
            for _ in range(6):
                number, amount, many = chance.randrange(len(given[0])), chance.randint(0, 300), chance.randint(0, 15)
                self.assert_answer(desk, f"pour {number} {amount}", "ok")
                self.assert_answer(desk, f"go {many}", "ok")
                run.pour(number, amount)
                run.go(many)
                if chance.random() < 0.3:
                    self.assert_answer(desk, "back", "ok")
                    run.back()
                held, coming, doors = run.state()
                self.assert_answer(desk, "held", " ".join(str(number) for number in held))
                self.assert_answer(desk, "coming", " ".join(str(number) for number in coming))
                self.assert_answer(desk, "doors", " ".join("open" if door else "shut" for door in doors) or "none")
                self.assert_answer(desk, "tick", str(run.tick()))
                self.assert_answer(desk, "came", str(run.came()))
                self.assert_answer(desk, "grounded", str(run.grounded()))
                for place in range(len(given[0])):
                    self.assert_answer(desk, f"tips {place}", " ".join(map(str, run.tips(place))) or "none")

    def test_the_functions_beside(self):
        seen = {}
        for seed in range(60):
            _, given = chance_given(seed, 5, 4)
            desk, plain = desk_of(given), PlainDesk(given)
            for row in asked(given, 6):
                told = self.check(desk, plain, row)
                sort = (row.split(" ")[0], told if told in ("none", "never", TooLong, TooMany) else "numbers")
                seen[sort] = seen.get(sort, 0) + 1
        for sort in (("stuck", "none"), ("stuck", "numbers"), ("soonest", "never"), ("soonest", "numbers"),
                     ("soonest", TooMany), ("round", "numbers")):
            self.assertGreater(seen.get(sort, 0), 5, seen)

    def test_rows_by_chance(self):
        seen = {}
        for seed in range(50):
            chance, given = chance_given(seed, 4, 4)
            desk, plain = desk_of(given), PlainDesk(given)
            for _ in range(40):
                due = self.check(desk, plain, self.chance_row(chance, len(given[0])))
                due = "told" if isinstance(due, str) else due
                seen[due] = seen.get(due, 0) + 1
        for due in (NoRow, NoVessel, TooMuch, Nothing, "told"):
            self.assertGreater(seen.get(due, 0), 10, seen)

    def chance_row(self, chance, many):
        word = chance.choice(WORDS + ("pour", "pour", "go", "go", "back"))
        numbers = []
        if word != "go" and COUNTS.get(word):
            numbers.append(chance.choice((0, many - 1, chance.randrange(many), chance.randrange(many), many, 99)))
        if word == "go":
            numbers.append(chance.choice((0, 1, 2, 3, 4, 5, 2990, 3000, 3001)))
        if word == "pour":
            numbers.append(chance.choice((0, 1, 5, 500, 1000, 1001, chance.randint(0, 600))))
        if word == "soonest":
            numbers.append(chance.randint(0, 6))
        words = [word] + [str(number) for number in numbers]
        if chance.random() < 0.1:
            words.insert(chance.randint(0, len(words)), chance.choice(("", "0", "held", "1", "01")))
        return " ".join(words)


class NoRows(DeskCase):
    def test_none_of_these_rows(self):
        given = clocks(2, 3)
        desk = desk_of(given)
        desk.say("pour 0 1")
        desk.say("go 3")
        for row in NO_ROWS:
            with self.subTest(row=row[:30]):
                self.assert_kept(desk, given, NoRow, row)
        self.assertEqual(PlainDesk(given).say("held"), "0 0")

    def test_the_second_telling_takes_none_of_them(self):
        plain = PlainDesk(clocks(2, 3))
        for row in NO_ROWS + NO_TEXTS:
            self.assertIs(plain.say(row), NoRow)

    def test_what_is_no_text(self):
        given = clocks(2)
        desk = desk_of(given)
        for thing in NO_TEXTS:
            self.assert_kept(desk, given, NoRow, thing)

    def test_a_word_more_or_fewer(self):
        given = clocks(2, 3)
        desk = desk_of(given)
        for word in WORDS:
            for count in range(5):
                if count != COUNTS.get(word, 0):
                    self.assert_kept(desk, given, NoRow, " ".join([word] + ["1"] * count))

    def test_nine_figures_and_ten(self):
        desk = desk_of(clocks(2))
        self.assert_refused(TooMuch, desk.say, "go 999999999")
        self.assert_refused(NoRow, desk.say, "go 1000000000")
        self.assert_refused(TooMuch, desk.say, "pour 0 999999999")
        self.assert_refused(NoRow, desk.say, "pour 0 1000000000")
        for word in ("tips 999999999", "stuck 999999999", "soonest 999999999 0", "pour 999999999 0"):
            self.assert_refused(NoVessel, desk.say, word)
            self.assert_refused(NoRow, desk.say, word.replace("999999999", "1000000000"))

    def test_figures_of_other_scripts_are_none(self):
        desk = desk_of(clocks(2))
        for figure in ("\u0661", "\u00b2", "\uff11"):
            self.assert_refused(NoRow, desk.say, f"go {figure}")

    def test_a_refused_row_of_any_sort_refuses_no_later_one(self):
        desk = desk_of(clocks(2))
        for row in ("go 4000", "pour 0 2000", "pour 9 1", "fill", "back"):
            with self.assertRaises(ValueError):
                desk.say(row)
        self.assert_answer(desk, "go 3000", "ok")


class InOrder(DeskCase):
    def test_no_row_ahead_of_no_vessel(self):
        desk = desk_of(clocks(2))
        for row in ("soonest 1 6", "soonest 99 6", "pour 1 01", "pour 1", "tips 1 1", "stuck 1 ", "pour 1 1000000000"):
            self.assert_refused(NoRow, desk.say, row)

    def test_no_vessel(self):
        for given in (clocks(2), clocks(2, 3), net(*[vessel()] * 12)):
            desk, many = desk_of(given), len(given[0])
            for number in (many, many + 1, 99, 999999999):
                for row in (f"pour {number} 0", f"pour {number} 5", f"tips {number}", f"stuck {number}",
                            f"soonest {number} 0", f"soonest {number} 5"):
                    self.assert_kept(desk, given, NoVessel, row)

    def test_no_vessel_ahead_of_too_much(self):
        desk = desk_of(clocks(2))
        self.assert_refused(NoVessel, desk.say, "pour 1 1001")
        desk.say("pour 0 1000")
        self.assert_refused(NoVessel, desk.say, "pour 1 999999999")

    def test_no_vessel_ahead_of_too_long_and_too_many(self):
        desk = desk_of(CLOCK_2001)
        self.assert_refused(NoVessel, desk.say, "stuck 3")
        self.assert_refused(NoVessel, desk.say, "soonest 3 1")

    def test_too_long_and_too_many(self):
        given = with_idle(CLOCK_2001)
        desk = desk_of(given)
        self.assert_kept(desk, given, TooLong, "round")
        self.assert_kept(desk, given, TooLong, "stuck 3")
        self.assert_kept(desk, given, TooMany, "soonest 3 0")
        given = hand_counter(60, 60)
        self.assert_kept(desk_of(given), given, TooMany, "soonest 1 1")

    def test_nothing(self):
        given = clocks(2)
        desk = desk_of(given)
        self.assert_kept(desk, given, Nothing, "back")
        for row in ("pour 0 0", "go 0", "back", "back"):
            self.assert_answer(desk, row, "ok")
        self.assert_kept(desk, given, Nothing, "back")


class TooMuchOfIt(DeskCase):
    def test_just_1000_in_all(self):
        given = net(vessel(60, 200), vessel(60, 200), spouts=(spout(0, 60),))
        desk = desk_of(given)
        self.assert_answer(desk, "pour 0 1000", "ok")
        self.assert_kept(desk, given, TooMuch, "pour 0 1")
        self.assert_answer(desk, "pour 0 0", "ok")
        self.assert_kept(desk, given, TooMuch, "pour 1 1001")
        # Each vessel has its own thousand.
        self.assert_answer(desk, "pour 1 400", "ok")
        self.assert_answer(desk, "pour 1 600", "ok")
        self.assert_kept(desk, given, TooMuch, "pour 1 1")
        self.assert_answer(desk, "go 0", "ok")
        self.assert_kept(desk, given, TooMuch, "pour 0 1")
        # And each tick.
        self.assert_answer(desk, "go 1", "ok")
        self.assert_answer(desk, "came", "2060")
        self.assert_answer(desk, "pour 0 999", "ok")
        self.assert_kept(desk, given, TooMuch, "pour 0 2")
        self.assert_answer(desk, "pour 0 1", "ok")
        self.assert_kept(desk, given, TooMuch, "pour 0 1")

    def test_what_is_taken_back_is_counted_no_more(self):
        desk = desk_of(STILL)
        for row in ("pour 0 600", "pour 0 400", "back", "pour 0 400"):
            self.assert_answer(desk, row, "ok")
        self.assert_kept(desk, STILL, TooMuch, "pour 0 1")
        for row in ("go 1", "pour 0 7", "back", "back"):
            self.assert_answer(desk, row, "ok")
        # What was poured ahead of the going waits again.
        self.assert_kept(desk, STILL, TooMuch, "pour 0 1")
        for row in ("back", "back", "pour 0 1000"):
            self.assert_answer(desk, row, "ok")

    def test_just_3000_ticks_in_all(self):
        for rows in (("go 3000",), ("go 2999", "go 1"), ("go 1", "go 0", "go 2999"), ("go 1000",) * 3):
            desk = desk_of(STILL)
            for row in rows:
                self.assert_answer(desk, row, "ok")
            self.assert_answer(desk, "tick", "3000")
            self.assert_kept(desk, STILL, TooMuch, "go 1")
            self.assert_kept(desk, STILL, TooMuch, "go 999999999")
            self.assert_answer(desk, "go 0", "ok")

    def test_one_more_than_3000_at_once(self):
        desk = desk_of(STILL)
        self.assert_kept(desk, STILL, TooMuch, "go 3001")
        self.assert_answer(desk, "go 5", "ok")
        self.assert_kept(desk, STILL, TooMuch, "go 2996")
        self.assert_answer(desk, "go 2995", "ok")

    def test_a_pouring_behind_the_3000th(self):
        desk = desk_of(STILL)
        self.assert_answer(desk, "go 3000", "ok")
        self.assert_answer(desk, "pour 1 1000", "ok")
        self.assert_kept(desk, STILL, TooMuch, "pour 1 1")
        self.assert_answer(desk, "held", "0 0")

    def test_ticks_taken_back_are_counted_no_more(self):
        desk = desk_of(STILL)
        for row in ("go 2000", "go 1000", "back", "go 999", "go 1", "back", "back", "back", "go 3000"):
            self.assert_answer(desk, row, "ok")
        self.assert_kept(desk, STILL, TooMuch, "go 1")

    def test_of_a_net_that_tips_to_the_last_tick(self):
        desk = desk_of(clocks(1))
        self.assert_answer(desk, "go 3000", "ok")
        self.assert_answer(desk, "tips 0", " ".join(str(tick) for tick in range(3000)))


class TwoDesks(DeskCase):
    def test_they_do_not_touch_each_other(self):
        text = net_text(bell_for([2, 5]))
        one, two = Desk(text), Desk(text)
        untouched = self.all_told(two, bell_for([2, 5]))
        for row in ("pour 0 5", "go 9", "pour 1 1000"):
            self.assert_answer(one, row, "ok")
        self.assertEqual(self.all_told(two, bell_for([2, 5])), untouched)
        self.assert_refused(Nothing, two.say, "back")
        self.assert_answer(two, "pour 1 1000", "ok")
        self.assert_answer(two, "go 3000", "ok")
        self.assert_answer(one, "tick", "9")
        self.assert_answer(one, "tips 0", "0 2 5")

    def test_asking_changes_nothing(self):
        given = counter([3, 2])
        desk = desk_of(given)
        desk.say("pour 0 2")
        desk.say("go 4")
        ahead = self.all_told(desk, given)
        for row in asked(given):
            desk.say(row)
        self.assertEqual(self.all_told(desk, given), ahead)
        self.assert_answer(desk, "round", "%d %d" % round_of(given))
        self.assert_answer(desk, "stuck 0", "%d %d" % stuck(given, 0))


if __name__ == "__main__":
    unittest.main()
