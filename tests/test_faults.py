"""Promise 25: the cases for which just this is seen, and the best watch, by the plain ticks of all cases."""

import random
import unittest

from kinds import KindCase
from plain_round import plain_through, plain_tips
from samples import chance_given, chance_net, clocks, net, spout, vessel
from tipwell.errors import NoVessel
from tipwell.faults import best_watch, cases
from tipwell.layouts import bell_for, counter
from tipwell.stuck import stuck

FAR = 10 ** 60 - 1


def plain_all(given, ticks):
    """The vessels that tip with each tick, of each case."""
    return {case: plain_through(given, ticks, case)[1] for case in [None, *range(len(given[0]))]}


def plain_cases(tipped, watched, seen):
    return [case for case in tipped if plain_tips(tipped[case], watched) == seen]


def plain_best(tipped, many):
    """The pair, by counting for each vessel the lists that are unlike all ahead of them."""
    best = None
    for watched in range(many):
        lists = []
        for case in tipped:
            tips = plain_tips(tipped[case], watched)
            if tips not in lists:
                lists.append(tips)
        if best is None or len(lists) > best[1]:
            best = (watched, len(lists))
    return best


def spoilt_lists(chance, tips, ticks):
    """The list with one tick left out, one put in, and one on by one, where it stays a rising list."""
    if tips:
        place = chance.randrange(len(tips))
        yield tips[:place] + tips[place + 1:]
        yield sorted(set(tips[:place] + [tips[place] + 1] + tips[place + 1:]))
        yield [tick + 1 for tick in tips]
        yield tips[:-1]
        yield tips[1:]
    yield sorted(set(tips + [chance.randrange(ticks)]))
    yield tips + [ticks]
    yield tips + [ticks + 5]
    yield []
    yield list(range(ticks))


class FaultCase(KindCase):
    def assert_cases(self, given, watched, ticks, seen, due):
        kept = list(seen)
        told = cases(given, watched, ticks, seen)
        self.assertEqual(told, due)
        self.assertIs(type(told), list)
        self.assertEqual(seen, kept)
        for case in told:
            self.assertTrue(case is None or type(case) is int)

    def assert_best(self, given, ticks, due):
        told = best_watch(given, ticks)
        self.assertEqual(told, due)
        self.assert_numbers(told, 2)


class Cases(FaultCase):
    def test_by_hand(self):
        given = counter([3, 2])
        self.assert_cases(given, 1, 20, [6, 12, 18], [None])
        self.assert_cases(given, 1, 20, [], [0, 1])
        self.assert_cases(given, 0, 20, [2, 5, 8, 11, 14, 17], [None, 1])
        self.assert_cases(given, 0, 20, [], [0])
        self.assert_cases(given, 0, 20, [2, 5], [])

    def test_bells(self):
        given = bell_for([2, 5, 9])
        for seen, due in (
            ([2, 5, 9], [None]), ([], [0]), ([5, 9], [1]), ([2, 9], [2]), ([2, 5], [3]), ([2], []), ([2, 5, 9, 10], []),
        ):
            self.assert_cases(given, 0, 60, seen, due)

    def test_within_so_many_ticks_alone(self):
        given = clocks(3)
        self.assert_cases(given, 0, 1, [], [None, 0])
        self.assert_cases(given, 0, 2, [], [None, 0])
        self.assert_cases(given, 0, 3, [], [0])
        self.assert_cases(given, 0, 3, [2], [None])
        self.assert_cases(given, 0, 5, [2], [None])
        self.assert_cases(given, 0, 5, [2, 5], [])
        self.assert_cases(given, 0, 6, [2, 5], [None])

    def test_a_tick_as_it_is_left_out_put_in_and_on_by_one(self):
        given = clocks(3, 4)
        for seen, due in (
            ([2, 5, 8], [None, 1]), ([2, 8], []), ([2, 5], []), ([2, 3, 5, 8], []), ([2, 5, 8, 9], []), ([2, 6, 8], []),
            ([3, 6, 9], []), ([], [0]),
        ):
            self.assert_cases(given, 0, 10, seen, due)

    def test_the_watched_one_stuck_tips_never(self):
        for seed in range(30):
            _, given = chance_given(seed)
            for watched in range(len(given[0])):
                self.assertIn(watched, cases(given, watched, 40, []))

    def test_one_that_nothing_comes_to(self):
        given = net(vessel(), vessel(), vessel())
        self.assert_cases(given, 1, 500, [], [None, 0, 1, 2])
        self.assert_cases(given, 1, 500, [3], [])

    def test_a_stuck_vessel_still_runs_over(self):
        given = net(vessel(5, 7, spill=1), vessel(2, 2), spouts=(spout(0, 1),))
        # Stuck, it holds 7, and from tick 7 on 1 runs over with each tick, to come with the next one.
        self.assert_cases(given, 1, 20, [9, 11, 13, 15, 17, 19], [0])
        self.assert_cases(given, 1, 20, [], [None, 1])

    def test_by_acts(self):
        given = net(
            vessel(3, 3, acts=(("shut", 1),)), vessel(2, 2), vessel(4, 4, acts=(("open", 1),)),
            spouts=(spout(0, 1), spout(1, 1), spout(2, 1)),
        )
        tipped = plain_all(given, 50)
        for case, seen in tipped.items():
            self.assert_cases(given, 1, 50, plain_tips(seen, 1), plain_cases(tipped, 1, plain_tips(seen, 1)))

    def test_every_case_of_nets_by_chance(self):
        lengths = {"none": 0, "some": 0, "all": 0}
        for seed in range(25):
            chance, given = chance_given(seed)
            ticks = chance.choice((1, 2, 10, 30, chance.randint(1, 40)))
            tipped = plain_all(given, ticks)
            for watched in range(len(given[0])):
                lists = [plain_tips(tipped[case], watched) for case in tipped]
                seen = chance.choice(lists)
                for row in [seen, lists[0], *spoilt_lists(chance, seen, ticks)]:
                    due = plain_cases(tipped, watched, row)
                    self.assert_cases(given, watched, ticks, row, due)
                    lengths["none" if not due else "all" if len(due) == len(tipped) else "some"] += 1
        self.assertGreater(min(lengths.values()), 100, lengths)

    def test_500_ticks(self):
        for given in (counter([5, 4]), bell_for([2, 30, 60]), clocks(59, 60, 2)):
            tipped = plain_all(given, 500)
            for watched in range(len(given[0])):
                for case in tipped:
                    seen = plain_tips(tipped[case], watched)
                    self.assert_cases(given, watched, 500, seen, plain_cases(tipped, watched, seen))

    def test_no_vessel(self):
        for given in (net(vessel()), counter([3, 2]), net(*[vessel()] * 12)):
            many = len(given[0])
            for watched in (-1, -many, many, many + 1, FAR, -FAR):
                self.assert_refused(NoVessel, cases, given, watched, 5, [])
                self.assert_refused(NoVessel, cases, given, watched, 500, [2, 3])

    def test_the_list_is_the_askers_own(self):
        given, seen = counter([3, 2]), [6, 12]
        told = cases(given, 1, 15, seen)
        seen.append(99)
        told.append(7)
        self.assertEqual(cases(given, 1, 15, [6, 12]), [None])
        self.assertEqual(seen, [6, 12, 99])

    def test_somewhat_beyond(self):
        self.assert_cases(clocks(3), 0, 0, [], [None, 0])
        self.assert_cases(clocks(3), 0, 600, list(range(2, 600, 3)), [None])
        self.assert_cases(clocks(3), 0, 5, [5, 2], [])


class BestWatch(FaultCase):
    def test_by_hand(self):
        # Vessel 1 tips as it does, or never: two lists; vessel 0, too, and it is the least.
        self.assert_best(counter([3, 2]), 20, (0, 2))
        # The bell's vessel 0 rings otherwise with each one stuck.
        self.assert_best(bell_for([2, 5, 9]), 60, (0, 5))
        self.assert_best(bell_for([2, 5, 9]), 6, (0, 4))
        self.assert_best(bell_for([2, 5, 9]), 2, (1, 2))
        self.assert_best(bell_for([2, 5, 9]), 1, (0, 1))

    def test_nothing_is_ever_seen(self):
        self.assert_best(net(vessel(), vessel()), 500, (0, 1))
        self.assert_best(net(vessel(2, 2), spouts=(spout(0, 1),)), 1, (0, 1))

    def test_the_least_of_several(self):
        self.assert_best(clocks(4, 3, 3), 4, (0, 2))
        self.assert_best(clocks(4, 3, 3), 3, (1, 2))

    def test_the_last_one(self):
        given = net(
            vessel(2, 2, ((2, 1), (None, 1))), vessel(3, 3, ((2, 1), (None, 2))), vessel(1, 1),
            spouts=(spout(0, 1), spout(1, 1)),
        )
        self.assert_best(given, 20, (2, 4))

    def test_nets_by_chance(self):
        seen = {"first": 0, "later": 0, "one list": 0, "many lists": 0}
        for seed in range(150):
            chance, given = chance_given(seed)
            ticks = chance.choice((1, 2, 5, 30, chance.randint(1, 60)))
            due = plain_best(plain_all(given, ticks), len(given[0]))
            self.assert_best(given, ticks, due)
            seen["later" if due[0] else "first"] += 1
            seen["one list"] += due[1] == 1
            seen["many lists"] += due[1] > 3
        self.assertGreater(min(seen.values()), 5, seen)

    def test_500_ticks(self):
        for given in (counter([7, 5, 3]), clocks(60, 59, 58), chance_net(random.Random(1), 12, 12)):
            self.assert_best(given, 500, plain_best(plain_all(given, 500), len(given[0])))

    def test_as_many_as_cases_tell(self):
        for seed in range(30):
            _, given = chance_given(seed)
            tipped = plain_all(given, 30)
            watched, many = best_watch(given, 30)
            lists = {tuple(plain_tips(tipped[case], watched)) for case in tipped}
            told = [tuple(cases(given, watched, 30, list(seen))) for seen in lists]
            self.assertEqual(len(set(told)), many)
            self.assertEqual(sum(len(row) for row in told), len(given[0]) + 1)

    def test_somewhat_beyond(self):
        self.assert_best(clocks(3), 0, (0, 1))
        self.assert_best(clocks(3), 600, (0, 2))


class WithStuck(FaultCase):
    def test_what_is_stuck_is_told_apart(self):
        """What promise 16 tells of a vessel is seen in its case, and not in the case that none is stuck."""
        told_apart = 0
        for seed in range(60):
            _, given = chance_given(seed)
            for number in range(len(given[0])):
                change = self.change_of(given, number)
                if change is not None and change[0] < 500:
                    tick, watched = change
                    seen = plain_tips(plain_through(given, tick + 1, number)[1], watched)
                    told = cases(given, watched, tick + 1, seen)
                    self.assertIn(number, told)
                    self.assertNotIn(None, told)
                    # A tick earlier nothing was to be seen of it.
                    seen = [early for early in seen if early < tick]
                    for case in (None, number):
                        self.assertIn(case, cases(given, watched, tick, seen))
                    told_apart += 1
        self.assertGreater(told_apart, 80)

    def change_of(self, given, number):
        try:
            return stuck(given, number)
        except ValueError:
            return None


if __name__ == "__main__":
    unittest.main()
