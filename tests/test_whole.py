"""Promises 2 and 3 over the whole program: what its parts tell of the same nets goes together."""

import copy
import random
import unittest
from math import lcm

from kinds import KindCase
from plain_run import plain_run, told_by
from samples import CLOCK_2001, chance_given, clocks, hand_counter, net, small_net, spout, vessel, with_idle
from tipwell.alike import alike
from tipwell.books import first_lie
from tipwell.desk import Desk
from tipwell.errors import NoNet, NoRow, NoText, Nothing, NoVessel, TipError, TooLong, TooMany, TooMuch
from tipwell.faults import best_watch, cases
from tipwell.layouts import bell_for, counter
from tipwell.least import least
from tipwell.matters import matters, trimmed
from tipwell.nets import is_net
from tipwell.rounds import round_of, tick_of, tips_by
from tipwell.runs import Run
from tipwell.soonest import soonest
from tipwell.stuck import stuck
from tipwell.texts import net_text, read_net
from tipwell.through import came_by, grounded_by, round_sums
from tipwell.ticks import first_state, tick_behind
from tipwell.together import beside, led_on, rhythm

FAR = 10 ** 60 - 1
THREE_TWO = counter([3, 2])


def told_or_refused(call, *things):
    """What is told, or the class of the refusal."""
    try:
        return call(*things)
    except TipError as refusal:
        return type(refusal)


def lists_in(thing):
    """The thing, where it is a list, and each list within it."""
    found = [thing] if isinstance(thing, list) else []
    if isinstance(thing, (list, tuple)):
        for part in thing:
            found += lists_in(part)
    return found


def busy_run():
    run = Run(THREE_TWO)
    run.pour(0, 4)
    run.go(9)
    run.pour(1, 2)
    run.go(4)
    return run


# Every function that tells a list, or lists within a tuple or a list.
LIST_TELLERS = (
    lambda: alike(THREE_TWO, THREE_TWO, 0, 0, 1),
    lambda: alike(THREE_TWO, counter([4, 2]), 0, 0, 1),
    lambda: least(THREE_TWO, 1, 2),
    lambda: soonest(THREE_TWO, 1, 2),
    lambda: soonest(net(vessel(), vessel()), 1, 2),
    lambda: cases(THREE_TWO, 1, 10, [6]),
    lambda: cases(THREE_TWO, 1, 10, []),
    lambda: cases(THREE_TWO, 1, 10, [5]),
)


class OwnLists(KindCase):
    """Every list that is told is the asker's own."""

    def spoil(self, told):
        for each in lists_in(told):
            each.append("spoilt")
            each.reverse()

    def assert_own(self, call):
        told = call()
        due = copy.deepcopy(told)
        parts = lists_in(told)
        self.assertGreater(len(parts), 0)
        self.assertEqual(len({id(each) for each in parts}), len(parts))
        self.spoil(told)
        again = call()
        self.assertEqual(again, due)
        for each in lists_in(again):
            each.clear()
        self.assertEqual(call(), due)

    def test_of_functions(self):
        for call in LIST_TELLERS:
            self.assert_own(call)

    def test_of_a_run(self):
        run = busy_run()
        self.assert_own(run.book)
        for number in (0, 1):
            self.assert_own(lambda: run.tips(number))

    def test_what_a_run_does_later_changes_none(self):
        run = busy_run()
        told = [run.book(), run.tips(0), run.tips(1)]
        due = copy.deepcopy(told)
        run.pour(0, 5)
        run.go(20)
        self.assertEqual(told, due)
        for _ in range(6):
            run.back()
        self.assertEqual(told, due)
        self.assertEqual([run.book(), run.tips(0), run.tips(1)], [[], [], []])

    def test_spoilt_lists_of_a_run_do_not_stop_it(self):
        run, plain = busy_run(), busy_run()
        for told in (run.book(), run.tips(0), run.tips(1)):
            told.clear()
        for each in (run, plain):
            each.back()
            each.go(7)
            each.back()
            each.back()
        self.assertEqual(told_by(run, 2), told_by(plain, 2))


class HandedIn(KindCase):
    """Nothing that is handed in is changed or kept."""

    def assert_kept(self, call, *things):
        ahead = copy.deepcopy(things)
        told = told_or_refused(call, *things)
        self.assertEqual(repr(things), repr(ahead))
        handed = {id(each) for each in lists_in(things)}
        self.assertEqual(handed & {id(each) for each in lists_in(told)}, set())
        return told

    def test_lists(self):
        self.assert_kept(counter, [3, 4, 5])
        self.assert_kept(bell_for, [3, 4, 50])
        self.assert_kept(rhythm, [8, 11], 7)
        self.assert_kept(cases, THREE_TWO, 1, 20, [6, 12, 18])
        self.assert_kept(cases, THREE_TWO, 9, 20, [6, 12, 18])
        self.assert_kept(first_lie, THREE_TWO, busy_run().book())
        self.assert_kept(first_lie, THREE_TWO, [("go", 1, []), ["pour", [0], [[1]]], [[]]])

    def test_lists_done_to_behind_the_call(self):
        for make, handed, more in (
            (counter, [3, 4], ()), (bell_for, [3, 4], ()), (rhythm, [3, 4], (3,)),
        ):
            told = make(handed, *more)
            due = copy.deepcopy(told)
            handed.append(5)
            handed.reverse()
            self.assertEqual(told, due)
            self.assertEqual(make([3, 4], *more), due)

    def test_of_anything(self):
        thing = [[["vessel"], ("spout", [1])], [], "held"]
        self.assertIs(self.assert_kept(is_net, thing), False)
        self.assertIs(self.assert_kept(is_net, (thing, thing)), False)
        self.assertIs(self.assert_kept(Run, thing), NoNet)
        self.assertIs(self.assert_kept(read_net, thing), NoText)
        self.assertIs(self.assert_kept(Desk, thing), NoText)
        self.assertIs(self.assert_kept(Desk(net_text(THREE_TWO)).say, thing), NoRow)

    def test_every_function_leaves_the_nets_as_they_are(self):
        one, two = small_net(random.Random(1), 3, 2), small_net(random.Random(2), 4, 3)
        state = first_state(one)
        for call, things in (
            (is_net, (one,)), (first_state, (one,)), (tick_behind, (one, state, (5, 0, 2))), (round_of, (one,)),
            (tips_by, (one, 0, 9)), (tick_of, (one, 0, 9)), (alike, (one, two, 0, 1, 2)), (least, (one, 1, 1)),
            (stuck, (one, 1)), (net_text, (one,)), (soonest, (one, 2, 2)), (round_sums, (one,)), (came_by, (one, 9)),
            (grounded_by, (one, 9)), (matters, (one, 2)), (trimmed, (one, 2)), (beside, (one, two)),
            (led_on, (one, 1, two)), (cases, (one, 1, 9, [])), (best_watch, (one, 9)), (first_lie, (one, [])),
        ):
            told = self.assert_kept(call, *things)
            self.assertEqual(told_or_refused(call, *things), told)


class Refused(KindCase):
    def test_the_refusal_told_first_goes_first(self):
        far_round, great = with_idle(CLOCK_2001), net(*[vessel()] * 12, spouts=(spout(),) * 12)
        desk = Desk(net_text(far_round))
        for due, call, things in (
            (NoVessel, tips_by, (far_round, 4, 0)), (TooLong, tips_by, (far_round, 3, 0)),
            (NoVessel, tick_of, (far_round, -1, 1)), (TooLong, tick_of, (far_round, 3, 1)),
            (NoVessel, stuck, (far_round, 4)), (TooLong, stuck, (far_round, 3)),
            (NoVessel, soonest, (far_round, 4, 0)), (TooMany, soonest, (far_round, 3, 0)),
            (NoVessel, led_on, (great, 12, great)), (TooMany, led_on, (great, 11, great)),
            (NoVessel, cases, (far_round, 4, 5, [])), (NoVessel, matters, (far_round, 4)),
            (NoVessel, trimmed, (far_round, 4)), (NoRow, desk.say, ("soonest 4 6",)), (NoRow, desk.say, ("pour 4 01",)),
            (NoVessel, desk.say, ("pour 4 1001",)), (TooMuch, desk.say, ("pour 3 1001",)),
            (NoVessel, desk.say, ("stuck 4",)), (TooLong, desk.say, ("stuck 3",)), (TooLong, desk.say, ("round",)),
            (NoVessel, desk.say, ("soonest 4 0",)), (TooMany, desk.say, ("soonest 3 0",)),
        ):
            self.assert_refused(due, call, *things)

    def test_what_is_refused_changes_no_run(self):
        run = busy_run()
        ahead = told_by(run, 2)
        for call, things in ((run.pour, (2, 5)), (run.pour, (-1, 5)), (run.tips, (2,)), (run.tips, (FAR,))):
            self.assert_refused(NoVessel, call, *things)
            self.assertEqual(told_by(run, 2), ahead)
        run.go(3)
        steps = [row[:2] if row[0] == "go" else row for row in run.book()]
        self.assertEqual(told_by(run, 2), plain_run(THREE_TWO, steps))
        fresh = Run(THREE_TWO)
        self.assert_refused(Nothing, fresh.back)
        self.assertEqual(told_by(fresh, 2), plain_run(THREE_TWO, []))


class DeskAndRun(KindCase):
    def test_a_desk_tells_as_its_run_does(self):
        for seed in range(60):
            chance, given = chance_given(seed)
            desk, run = Desk(net_text(given)), Run(given)
            for _ in range(15):
                what = chance.random()
                if what < 0.4:
                    number, amount = chance.randrange(len(given[0])), chance.randint(0, 60)
                    run.pour(number, amount)
                    self.assertEqual(desk.say(f"pour {number} {amount}"), "ok")
                elif what < 0.8 or not run.book():
                    many = chance.randint(0, 9)
                    run.go(many)
                    self.assertEqual(desk.say(f"go {many}"), "ok")
                else:
                    run.back()
                    self.assertEqual(desk.say("back"), "ok")
                self.assert_alike(desk, run, given)

    def assert_alike(self, desk, run, given):
        held, coming, doors = run.state()
        self.assertEqual([int(word) for word in desk.say("held").split(" ")], list(held))
        self.assertEqual([int(word) for word in desk.say("coming").split(" ")], list(coming))
        self.assertEqual(desk.say("doors"), " ".join("open" if door else "shut" for door in doors) or "none")
        for word, number in (("tick", run.tick()), ("came", run.came()), ("grounded", run.grounded())):
            self.assertEqual(desk.say(word), str(number))
        for number in range(len(given[0])):
            self.assertEqual(desk.say(f"tips {number}"), " ".join(map(str, run.tips(number))) or "none")
        self.assertEqual(run.came(), sum(held) + sum(coming) + run.grounded())


class BookAndRun(KindCase):
    def test_a_book_has_no_lie_and_makes_the_run_anew(self):
        for seed in range(60):
            chance, given = chance_given(seed)
            run = Run(given)
            for _ in range(chance.randint(0, 20)):
                if chance.random() < 0.5:
                    run.pour(chance.randrange(len(given[0])), chance.randint(0, 40))
                else:
                    run.go(chance.randint(0, 12))
                if chance.random() < 0.2:
                    run.back()
            self.assertIsNone(first_lie(given, run.book()))
            anew = Run(given)
            for row in run.book():
                if row[0] == "pour":
                    anew.pour(row[1], row[2])
                else:
                    anew.go(row[1])
            self.assertEqual(told_by(anew, len(given[0])), told_by(run, len(given[0])))

    def test_a_vessel_hushed_up_is_a_lie_where_it_first_tips(self):
        lies = 0
        for seed in range(60):
            _, given = chance_given(seed, 4, 4)
            run = Run(given)
            for _ in range(60):
                run.go(1)
            for hushed in range(len(given[0])):
                book = [
                    (word, many, tuple(pair for pair in tipped if pair[1] != hushed))
                    for word, many, tipped in run.book()
                ]
                due = run.tips(hushed)[0] if run.tips(hushed) else None
                self.assertEqual(first_lie(given, book), due)
                lies += due is not None
        self.assertGreater(lies, 30)


class WholeAndTrimmed(KindCase):
    def test_least_machines_soonest_rows_and_acting_alike(self):
        seen = {"least": 0, "tips": 0, "never": 0, "alike": 0}
        for seed in range(150):
            chance, given = chance_given(seed, 6, 4)
            for watched in range(len(given[0])):
                smaller, number = trimmed(given, watched)
                if len(smaller[0]) == len(given[0]):
                    continue
                most = chance.randint(0, 2)
                one, two = told_or_refused(least, given, watched, most), told_or_refused(least, smaller, number, most)
                if TooMany not in (one, two):
                    self.assertEqual(one, two)
                    seen["least"] += 1
                one = told_or_refused(soonest, given, watched, most)
                two = told_or_refused(soonest, smaller, number, most)
                if TooMany not in (one, two):
                    self.assertEqual(one[0], two[0])
                    seen[one[0]] += 1
                    if one[0] == "tips":
                        self.assertEqual(one[1], two[1])
                told = told_or_refused(alike, given, smaller, watched, number, most)
                if told is not TooMany:
                    self.assertEqual(told[0], "alike")
                    seen["alike"] += 1
        self.assertGreater(min(seen.values()), 30, seen)

    def test_tips_of_runs_and_for_ever(self):
        told_for_ever = 0
        for seed in range(100):
            chance, given = chance_given(seed, 8, 6)
            watched = chance.randrange(len(given[0]))
            smaller, number = trimmed(given, watched)
            whole, part = Run(given), Run(smaller)
            for _ in range(8):
                amount, many = chance.randint(0, 70), chance.randint(0, 12)
                for run in (whole, part):
                    run.pour(0, amount)
                    run.go(many)
            self.assertEqual(part.tips(number), whole.tips(watched))
            ticks = chance.choice((7, 100, 10 ** 50))
            told = {told_or_refused(tips_by, given, watched, ticks), told_or_refused(tips_by, smaller, number, ticks)}
            self.assertEqual(len(told - {TooLong}), 1 if told != {TooLong} else 0)
            told_for_ever += TooLong not in told
        self.assertGreater(told_for_ever, 40)


class SideBySide(KindCase):
    def test_rounds_tips_and_sums_are_those_of_both(self):
        told = 0
        for seed in range(150):
            chance, given = chance_given(seed, 6, 6)
            other = chance_given(seed + 1000, 6, 6)[1]
            rounds = [told_or_refused(round_of, given), told_or_refused(round_of, other)]
            if TooLong in rounds:
                self.assertIs(told_or_refused(round_of, beside(given, other)), TooLong)
                continue
            ahead, length = max(rounds[0][0], rounds[1][0]), lcm(rounds[0][1], rounds[1][1])
            if ahead + length > 2000:
                self.assertIs(told_or_refused(round_of, beside(given, other)), TooLong)
                continue
            told += 1
            self.check(chance, given, other, ahead, length)
        self.assertGreater(told, 60)

    def check(self, chance, given, other, ahead, length):
        both, many = beside(given, other), len(given[0])
        self.assertEqual(round_of(both), (ahead, length))
        one, two = round_sums(given), round_sums(other)
        by_one, by_two = length // round_of(given)[1], length // round_of(other)[1]
        tips = tuple(by_one * each for each in one[2]) + tuple(by_two * each for each in two[2])
        self.assertEqual(round_sums(both), (by_one * one[0] + by_two * two[0], by_one * one[1] + by_two * two[1], tips))
        ticks = chance.choice((0, 1, 50, 10 ** 40))
        self.assertEqual(came_by(both, ticks), came_by(given, ticks) + came_by(other, ticks))
        self.assertEqual(grounded_by(both, ticks), grounded_by(given, ticks) + grounded_by(other, ticks))
        for number in range(many + len(other[0])):
            alone, place = (given, number) if number < many else (other, number - many)
            self.assertEqual(tips_by(both, number, ticks), tips_by(alone, place, ticks))
            self.assertEqual(tick_of(both, number, ticks + 1), tick_of(alone, place, ticks + 1))

    def test_what_matters_is_of_its_own_part(self):
        for seed in range(60):
            _, given = chance_given(seed, 6, 6)
            other = chance_given(seed + 1000, 6, 6)[1]
            both, many = beside(given, other), len(given[0])
            for number in range(many):
                self.assertEqual(matters(both, number), matters(given, number))
                self.assertEqual(trimmed(both, number), trimmed(given, number))

    def test_stuck_vessels_change_what_they_do_alone(self):
        same = 0
        for seed in range(40):
            _, given = chance_given(seed, 4, 4)
            other = chance_given(seed + 1000, 4, 4)[1]
            for number in range(len(given[0])):
                alone = told_or_refused(stuck, given, number)
                told = told_or_refused(stuck, beside(given, other), number)
                if TooLong not in (alone, told):
                    self.assertEqual(told, alone)
                    same += 1
        self.assertGreater(same, 40)


class LedOnAndRun(KindCase):
    def test_as_poured_by_hand(self):
        """Led on from a vessel that sends all to the ground, the other is poured into a tick behind each tip."""
        for seed in range(40):
            chance, other = chance_given(seed, 8, 8)
            size = chance.randint(1, 9)
            given = clocks(size)
            together, alone = Run(led_on(given, 0, other)), Run(other)
            together.go(60)
            for tick in range(60):
                if tick and tick % size == 0:
                    alone.pour(0, size)
                alone.go(1)
            for number in range(len(other[0])):
                self.assertEqual(together.tips(number + 1), alone.tips(number))
            self.assertEqual(together.grounded(), alone.grounded())


class FaultsAndStuck(KindCase):
    def test_what_never_changes_is_never_told_apart(self):
        never = 0
        for seed in range(40):
            _, given = chance_given(seed, 5, 5)
            for number in range(len(given[0])):
                if told_or_refused(stuck, given, number) is None:
                    never += 1
                    run = Run(given)
                    run.go(80)
                    for watched in range(len(given[0])):
                        told = cases(given, watched, 80, run.tips(watched))
                        self.assertIn(None, told)
                        if watched != number:
                            self.assertIn(number, told)
        self.assertGreater(never, 30)

    def test_no_vessel_told_apart_where_none_matters(self):
        for seed in range(40):
            _, given = chance_given(seed, 5, 5)
            for watched in range(len(given[0])):
                run = Run(given)
                run.go(50)
                told = cases(given, watched, 50, run.tips(watched))
                for number in range(len(given[0])):
                    if number not in matters(given, watched):
                        self.assertIn(number, told)


class TextsOfAll(KindCase):
    def test_what_is_laid_out_and_put_together_is_written_and_read(self):
        for given in (
            counter([3, 4, 5]), bell_for([1, 2, 60]), rhythm([8, 11], 7), beside(counter([3]), bell_for([4])),
            led_on(counter([3]), 0, bell_for([4])), trimmed(bell_for([2, 3, 50]), 2)[0], hand_counter(3, 4),
        ):
            self.assertEqual(read_net(net_text(given)), given)
            self.assertEqual(Desk(net_text(given)).say("round"), "%d %d" % round_of(given))


if __name__ == "__main__":
    unittest.main()
