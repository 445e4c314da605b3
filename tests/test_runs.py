"""Promises 9, 26 and 27, with 2, 3 and 8 for them: runs, their books, and what is taken back."""

import random
import unittest

from kinds import KindCase
from plain_run import plain_run, told_by
from samples import chance_net, net, spout, vessel
from tipwell.errors import NoNet, NoVessel, Nothing
from tipwell.runs import Run

SIXTY_FIGURES = 10 ** 60 - 1
NO_NETS = (
    None, True, False, 0, 1, -SIXTY_FIGURES, SIXTY_FIGURES, "", "net", [], (), [[], []], ((), ()), ([], []),
    (None, None), (vessel(), ()), ((vessel(),),), ((vessel(),), (), ()), [(vessel(),), ()], ([vessel()], ()),
    ((vessel(),), []), ((list(vessel()),), ()), ((vessel(),) * 13, ()), ((vessel(),), (spout(),) * 13),
    net(vessel(size=0)), net(vessel(size=61, brim=61)), net(vessel(size=5, brim=4)), net(vessel(brim=201)),
    net(vessel(outs=())), net(vessel(outs=((1, 1),))), net(vessel(holds=1)), net(vessel(spill=0)),
    net(vessel(acts=(("open", 0),))), net(vessel(), spouts=(spout(1),)), net(vessel(), spouts=(spout(flow=61),)),
)
# Two vessels that hand on to each other and to the ground; the second shuts and opens the spout.
PAIR = net(
    vessel(5, 9, ((1, 2), (None, 1)), holds=True),
    vessel(4, 6, ((0, 1), (None, 1)), acts=(("turn", 0),)),
    spouts=(spout(0, 3, True), spout(1, 1, False)),
)


def chance_amount(chance, left):
    """An amount that keeps what is poured into a vessel for one tick within its thousand."""
    return min(left, chance.choice((0, 1, chance.randint(0, 10), chance.randint(0, 200), left)))


def chance_steps(chance, vessel_count, many):
    """Pourings, often several for one tick, and goings of no tick, of one and of many."""
    steps, left = [], [1000] * vessel_count
    for _ in range(many):
        if chance.random() < 0.6:
            number = chance.randrange(vessel_count)
            amount = chance_amount(chance, left[number])
            left[number] -= amount
            steps.append(("pour", number, amount))
        else:
            going = chance.choice((0, 1, 1, 2, chance.randint(0, 25)))
            left = left if going == 0 else [1000] * vessel_count
            steps.append(("go", going))
    return steps


def do(run, step):
    return run.pour(step[1], step[2]) if step[0] == "pour" else run.go(step[1])


def done(given, steps):
    run = Run(given)
    for step in steps:
        do(run, step)
    return run


class RunCase(KindCase):
    maxDiff = None

    def assert_as(self, run, given, steps):
        told = told_by(run, len(given[0]))
        self.assertEqual(told, plain_run(given, steps))
        self.assert_state(given, told["state"])
        for name in ("tick", "came", "grounded"):
            self.assertIs(type(told[name]), int)
        held, coming, _ = told["state"]
        self.assertEqual(told["came"], sum(held) + sum(coming) + told["grounded"])


class Making(RunCase):
    def test_of_anything_that_is_no_net(self):
        for thing in NO_NETS:
            with self.subTest(thing=thing):
                self.assert_refused(NoNet, Run, thing)

    def test_of_deep_things(self):
        deep_list, deep_tuple = [], ()
        for _ in range(5000):
            deep_list, deep_tuple = [deep_list], (deep_tuple,)
        self.assert_refused(NoNet, Run, deep_list)
        self.assert_refused(NoNet, Run, deep_tuple)
        self.assert_refused(NoNet, Run, ((deep_tuple,), ()))

    def test_of_a_net(self):
        chance = random.Random(9)
        for vessel_count, spout_count in ((1, 0), (1, 1), (2, 3), (12, 12), (5, 0)):
            given = chance_net(chance, vessel_count, spout_count)
            run = Run(given)
            self.assertEqual(run.tick(), 0)
            doors = tuple(door for _, _, door in given[1])
            self.assertEqual(run.state(), ((0,) * vessel_count, (0,) * vessel_count, doors))
            self.assertEqual([run.tips(number) for number in range(vessel_count)], [[]] * vessel_count)
            self.assertEqual((run.came(), run.grounded()), (0, 0))
            self.assertEqual(run.book(), [])
            self.assert_as(run, given, [])


class Pouring(RunCase):
    def test_tells_none(self):
        run = Run(PAIR)
        self.assertIsNone(run.pour(0, 3))
        self.assertIsNone(run.go(2))
        self.assertIsNone(run.back())

    def test_by_hand(self):
        run = Run(PAIR)
        run.pour(0, 4)
        self.assertEqual(run.state(), ((0, 0), (0, 0), (True, False)))
        self.assertEqual((run.tick(), run.came(), run.grounded()), (0, 0, 0))
        run.go(1)
        self.assertEqual(run.state(), ((1, 0), (0, 4), (True, False)))
        self.assertEqual((run.tick(), run.came(), run.grounded()), (1, 7, 2))
        run.go(1)
        self.assertEqual(run.state(), ((4, 0), (2, 0), (False, False)))
        self.assertEqual((run.tick(), run.came(), run.grounded()), (2, 10, 4))
        self.assertEqual((run.tips(0), run.tips(1)), ([0], [1]))
        self.assertEqual(run.book(), [("pour", 0, 4), ("go", 1, ((0, 0),)), ("go", 1, ((1, 1),))])

    def test_poured_with_one_tick_alone(self):
        given = net(vessel(60, 200))
        run = done(given, [("pour", 0, 7), ("go", 3)])
        self.assertEqual((run.state()[0], run.came()), ((7,), 7))

    def test_several_for_one_vessel_and_tick(self):
        given = net(vessel(60, 200), vessel(60, 200))
        steps = [("pour", 1, 3), ("pour", 1, 0), ("pour", 0, 9), ("pour", 1, 4), ("go", 1), ("pour", 1, 5), ("go", 1)]
        run = done(given, steps)
        self.assertEqual((run.state()[0], run.came()), ((9, 12), 21))

    def test_a_going_of_no_tick_leaves_what_is_poured(self):
        given = net(vessel(60, 200))
        run = done(given, [("pour", 0, 3), ("go", 0), ("go", 0), ("pour", 0, 4), ("go", 0)])
        self.assertEqual((run.tick(), run.state(), run.came()), (0, ((0,), (0,), ()), 0))
        run.go(1)
        self.assertEqual((run.tick(), run.state(), run.came()), (1, ((7,), (0,), ()), 7))

    def test_a_thousand_in_all_for_each_vessel(self):
        given = net(vessel(60, 200), vessel(60, 200, spill=None))
        steps = [("pour", 0, 1000), ("pour", 1, 999), ("pour", 1, 1), ("pour", 1, 0), ("go", 2)]
        run = done(given, steps)
        self.assertEqual((run.came(), run.grounded()), (2000, 2000))
        self.assert_as(run, given, steps)

    def test_nothing_poured_is_a_pouring(self):
        given = net(vessel(1, 1))
        run = done(given, [("pour", 0, 0), ("go", 1)])
        self.assertEqual(run.tips(0), [])
        self.assertEqual(run.book(), [("pour", 0, 0), ("go", 1, ())])


class ByChance(RunCase):
    def chance_case(self, seed):
        chance = random.Random(seed)
        given = chance_net(chance, chance.randint(1, 12), chance.randint(0, 12))
        return given, chance_steps(chance, len(given[0]), chance.randint(1, 14))

    def test_behind_each_step(self):
        for seed in range(120):
            given, steps = self.chance_case(seed)
            run = Run(given)
            with self.subTest(seed=seed):
                for many, step in enumerate(steps):
                    do(run, step)
                    self.assert_as(run, given, steps[:many + 1])

    def test_in_other_parcels(self):
        for seed in range(120, 200):
            given, steps = self.chance_case(seed)
            chance = random.Random(-seed)
            parcels = []
            for step in steps:
                left = step[1] if step[0] == "go" else 0
                while left > 0:
                    part = chance.randint(0, left)
                    parcels.append(("go", part))
                    left -= part
                if step[0] == "pour":
                    half = chance.randint(0, step[2])
                    parcels += [("pour", step[1], half), ("go", 0), ("pour", step[1], step[2] - half)]
            one = told_by(done(given, steps), len(given[0]))
            other = told_by(done(given, parcels), len(given[0]))
            del one["book"], other["book"]
            with self.subTest(seed=seed):
                self.assertEqual(one, other)

    def test_three_thousand_ticks(self):
        chance = random.Random(3000)
        for parcel in (1, 7, 1500, 3000):
            given = chance_net(chance, 3, 3)
            steps = []
            while 3000 - parcel * sum(step[0] == "go" for step in steps) >= parcel:
                steps += [("pour", chance.randrange(3), chance.randint(0, 1000)), ("go", parcel)]
            gone = sum(step[1] for step in steps if step[0] == "go")
            steps += [("go", 3000 - gone), ("pour", 1, 1000), ("pour", 2, 5), ("go", 0)]
            run = done(given, steps)
            self.assertEqual(run.tick(), 3000)
            self.assert_as(run, given, steps)

    def test_a_pouring_behind_the_last_tick(self):
        run = done(PAIR, [("go", 3000)])
        before = told_by(run, 2)
        run.pour(1, 1000)
        after = told_by(run, 2)
        self.assertEqual(after.pop("book"), before.pop("book") + [("pour", 1, 1000)])
        self.assertEqual(after, before)


class NoSuchVessel(RunCase):
    def test_refused_and_nothing_changed(self):
        chance = random.Random(27)
        for vessel_count in (1, 2, 12):
            given = chance_net(chance, vessel_count, 4)
            steps = [("pour", 0, 30), ("go", 6), ("pour", vessel_count - 1, 40)]
            run = done(given, steps)
            for number in (-1, -2, -vessel_count, vessel_count, vessel_count + 1, 99, SIXTY_FIGURES, -SIXTY_FIGURES):
                with self.subTest(vessel_count=vessel_count, number=number):
                    self.assert_refused(NoVessel, run.pour, number, 5)
                    self.assert_refused(NoVessel, run.pour, number, 0)
                    self.assert_refused(NoVessel, run.tips, number)
                    self.assert_as(run, given, steps)
            run.go(1)
            self.assert_as(run, given, steps + [("go", 1)])

    def test_nothing_to_take_back_of_it(self):
        run = Run(PAIR)
        self.assert_refused(NoVessel, run.pour, 2, 5)
        self.assert_refused(Nothing, run.back)
        run.pour(1, 3)
        self.assert_refused(NoVessel, run.pour, -1, 5)
        run.back()
        self.assert_as(run, PAIR, [])
        self.assert_refused(Nothing, run.back)


class OwnLists(RunCase):
    def test_lists_are_the_askers_own(self):
        steps = [("pour", 0, 40), ("go", 30), ("pour", 1, 3)]
        run = done(PAIR, steps)
        for ask in (run.book, lambda: run.tips(0), lambda: run.tips(1)):
            self.assertTrue(ask())
            self.assertIs(type(ask()), list)
            ask().clear()
            self.assert_as(run, PAIR, steps)
            ask().append(("go", 1, ()))
            self.assert_as(run, PAIR, steps)

    def test_nothing_done_later_changes_them(self):
        run = done(PAIR, [("pour", 0, 40), ("go", 30)])
        book, tips = run.book(), run.tips(0)
        kept = list(book), list(tips)
        run.go(50)
        self.assertEqual((book, tips), kept)
        run.back()
        run.back()
        self.assertEqual((book, tips), kept)

    def test_empty_lists_too(self):
        run = Run(PAIR)
        run.book().append(("pour", 0, 1))
        run.tips(0).append(7)
        self.assert_as(run, PAIR, [])

    def test_two_runs_of_one_net(self):
        one, other = Run(PAIR), Run(PAIR)
        steps = [("pour", 0, 12), ("go", 9), ("pour", 1, 2)]
        for step in steps:
            do(one, step)
            self.assert_as(other, PAIR, [])
        do(other, ("go", 4))
        self.assert_as(one, PAIR, steps)
        one.back()
        self.assert_as(other, PAIR, [("go", 4)])


class Book(RunCase):
    def assert_rows(self, book):
        for row in book:
            self.assertIs(type(row), tuple)
            self.assertEqual(len(row), 3)
            self.assertIs(type(row[1]), int)
            if row[0] == "pour":
                self.assertIs(type(row[2]), int)
            else:
                self.assertEqual(row[0], "go")
                self.assertIs(type(row[2]), tuple)
                for pair in row[2]:
                    self.assert_numbers(pair, 2)
                self.assertEqual(list(row[2]), sorted(set(row[2])))

    def test_rows_by_chance(self):
        for seed in range(40):
            chance = random.Random(seed)
            given = chance_net(chance, chance.randint(1, 12), chance.randint(0, 12))
            steps = chance_steps(chance, len(given[0]), 12)
            book = done(given, steps).book()
            self.assertEqual([row[:2] for row in book], [step[:2] for step in steps])
            self.assert_rows(book)

    def test_several_tips_with_one_tick(self):
        given = net(vessel(1, 1), vessel(2, 2), vessel(1, 1), spouts=(spout(0, 1), spout(1, 1), spout(2, 1)))
        run = Run(given)
        run.go(2)
        self.assertEqual(run.book(), [("go", 2, ((0, 0), (0, 2), (1, 0), (1, 1), (1, 2)))])
        run.go(1)
        self.assertEqual(run.book()[1:], [("go", 1, ((2, 0), (2, 2)))])
        self.assert_rows(run.book())

    def test_a_going_of_no_tick(self):
        run = Run(PAIR)
        run.go(0)
        run.go(0)
        self.assertEqual(run.book(), [("go", 0, ()), ("go", 0, ())])

    def test_pourings_are_rows_one_by_one(self):
        run = Run(PAIR)
        for amount in (3, 0, 3):
            run.pour(1, amount)
        self.assertEqual(run.book(), [("pour", 1, 3), ("pour", 1, 0), ("pour", 1, 3)])


class Back(RunCase):
    def test_nothing_to_take_back(self):
        run = Run(PAIR)
        for _ in range(2):
            self.assert_refused(Nothing, run.back)
            self.assert_as(run, PAIR, [])
        run.go(0)
        run.back()
        self.assert_refused(Nothing, run.back)
        run.pour(0, 5)
        run.go(1)
        self.assert_as(run, PAIR, [("pour", 0, 5), ("go", 1)])

    def test_step_by_step_to_the_first(self):
        for seed in range(60):
            chance = random.Random(seed)
            given = chance_net(chance, chance.randint(1, 12), chance.randint(0, 12))
            steps = chance_steps(chance, len(given[0]), chance.randint(1, 12))
            run = done(given, steps)
            with self.subTest(seed=seed):
                while steps:
                    run.back()
                    steps = steps[:-1]
                    self.assert_as(run, given, steps)
                self.assert_refused(Nothing, run.back)
                self.assert_as(run, given, [])

    def test_back_and_on_by_other_steps(self):
        for seed in range(60, 160):
            chance = random.Random(seed)
            given = chance_net(chance, chance.randint(1, 12), chance.randint(0, 12))
            run, steps = Run(given), []
            with self.subTest(seed=seed):
                for step in chance_steps(chance, len(given[0]), 25):
                    if steps and chance.random() < 0.4:
                        run.back()
                        steps.pop()
                    else:
                        do(run, step)
                        steps.append(step)
                    self.assert_as(run, given, steps)

    def test_what_is_poured_and_not_yet_gone_with_is_back(self):
        given = net(vessel(60, 200))
        run = done(given, [("pour", 0, 3), ("pour", 0, 4), ("go", 2)])
        run.back()
        run.go(1)
        self.assertEqual((run.state()[0], run.came()), ((7,), 7))
        run.back()
        run.back()
        run.go(1)
        self.assertEqual((run.state()[0], run.came()), ((3,), 3))

    def test_a_step_at_a_time(self):
        run = done(PAIR, [("go", 5), ("go", 5)])
        run.back()
        self.assertEqual(run.tick(), 5)
        run.back()
        self.assertEqual(run.tick(), 0)

    def test_more_than_three_thousand_ticks_where_some_were_taken_back(self):
        run, steps = Run(PAIR), [("go", 1000), ("pour", 0, 77)]
        for step in steps:
            do(run, step)
        for _ in range(3):
            run.go(2000)
            self.assertEqual(run.tick(), 3000)
            run.back()
            self.assert_as(run, PAIR, steps)
        run.go(2000)
        run.pour(1, 1000)
        self.assert_as(run, PAIR, steps + [("go", 2000), ("pour", 1, 1000)])


class SomewhatBeyond(RunCase):
    def test_no_error(self):
        steps = [("pour", 0, 1001), ("pour", 0, 5000), ("go", 3001), ("go", 10), ("pour", 1, 3)]
        self.assert_as(done(PAIR, steps), PAIR, steps)


if __name__ == "__main__":
    unittest.main()
