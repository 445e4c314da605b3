"""Promise 15: the least machine of a net acts as it does, and none of fewer rooms does."""

import random
import unittest
from itertools import product

from kinds import KindCase
from plain_run import plain_first
from plain_search import plain_come_up, plain_tips_along, plain_watch
from samples import chance_net, clocks, hand_counter, net, small_net, spout, vessel, with_idle, with_start
from tipwell.errors import TooMany
from tipwell.layouts import bell_for, counter
from tipwell.least import least


def machine_tips(machine, row):
    room, tips = 0, []
    for amount in row:
        room, tipped = machine[room][amount]
        tips.append(tipped)
    return tips


def parted_rooms(machine):
    """The pairs of rooms that some row of pourings parts: by one pouring, then all that lead to such a pair."""
    rooms = range(len(machine))
    leading = {}
    for room in rooms:
        for amount, (behind, _) in enumerate(machine[room]):
            leading.setdefault((behind, amount), []).append(room)
    found = [
        (one, two) for one in rooms for two in rooms
        if [tips for _, tips in machine[one]] != [tips for _, tips in machine[two]]
    ]
    there = set(found)
    for one, two in found:
        for amount in range(len(machine[0])):
            for pair in product(leading.get((one, amount), ()), leading.get((two, amount), ())):
                if pair not in there:
                    there.add(pair)
                    found.append(pair)
    return found


def order_of_rooms(machine):
    order = [0]
    for room in order:
        for behind, _ in machine[room]:
            if behind not in order:
                order.append(behind)
    return order


class LeastCase(KindCase):
    def assert_form(self, machine, most):
        self.assertIs(type(machine), list)
        for room in machine:
            self.assertIs(type(room), list)
            self.assertEqual(len(room), most + 1)
            for pair in room:
                self.assertIs(type(pair), tuple)
                behind, tips = pair
                self.assertIs(type(behind), int)
                self.assertTrue(0 <= behind < len(machine))
                self.assertIs(type(tips), bool)

    def assert_acts_as(self, machine, given, watched, most):
        """All pairs of a state and a room that come up together tip alike, so every row of pourings does."""
        pairs = [(plain_first(given), 0)]
        there = set(pairs)
        for state, room in pairs:
            for amount in range(most + 1):
                behind, tips = plain_watch(given, state, watched, amount)
                room_behind, room_tips = machine[room][amount]
                self.assertEqual(tips, room_tips)
                if (behind, room_behind) not in there:
                    there.add((behind, room_behind))
                    pairs.append((behind, room_behind))

    def check(self, given, watched, most):
        """Hold what is told against the plain ticks: tell how many rooms it has, None where it was refused."""
        due, states = plain_come_up(
            plain_first(given), lambda state, amount: (plain_watch(given, state, watched, amount)[0], False), most, 200
        )
        if due == "too many":
            self.assert_refused(TooMany, least, given, watched, most)
            return None
        machine = least(given, watched, most)
        many = len(machine)
        self.assert_form(machine, most)
        self.assertLessEqual(many, len(states))
        self.assertEqual(order_of_rooms(machine), list(range(many)))
        self.assertEqual(len(parted_rooms(machine)), many * (many - 1))
        self.assert_acts_as(machine, given, watched, most)
        return many


class Least(LeastCase):
    def test_by_hand(self):
        self.assertEqual(least(net(vessel()), 0, 0), [[(0, False)]])
        self.assertEqual(least(clocks(1), 0, 0), [[(0, True)]])
        self.assertEqual(least(clocks(3), 0, 0), [[(1, False)], [(2, False)], [(0, True)]])
        self.assertEqual(least(net(vessel(2, 2)), 0, 2), [
            [(0, False), (1, False), (0, True)],
            [(1, False), (0, True), (0, True)],
        ])
        self.assertEqual(least(net(vessel(3, 3)), 0, 3), [
            [(0, False), (1, False), (2, False), (0, True)],
            [(1, False), (2, False), (0, True), (0, True)],
            [(2, False), (0, True), (0, True), (0, True)],
        ])

    def test_numbered_as_they_come_up(self):
        # By the pourings 0, 1, 2 of room 0 what is left to fill comes up as 6, 5 and 4 less the drip.
        machine = least(net(vessel(6, 6), spouts=(spout(0, 1),)), 0, 2)
        self.assertEqual([behind for behind, _ in machine[0]], [1, 2, 3])
        self.assertEqual(order_of_rooms(machine), list(range(6)))

    def test_fewer_rooms_than_states(self):
        self.assertEqual(self.check(with_idle(hand_counter(3, 4)), 2, 5), 1)
        self.assertEqual(self.check(hand_counter(3, 4), 0, 5), 3)
        self.assertEqual(self.check(net(vessel(2, 2, ((1, 2),)), vessel(6, 6)), 1, 3),
                         self.check(hand_counter(2, 3), 1, 3))

    def test_rooms_that_long_rows_alone_part(self):
        self.assertEqual(self.check(bell_for([59]), 0, 0), 61)
        self.assertEqual(self.check(bell_for([3, 30, 60]), 0, 0), 62)
        self.assertEqual(self.check(counter([10, 15]), 1, 0), 151)

    def test_small_nets_by_chance(self):
        seen = []
        for seed in range(150):
            chance = random.Random(seed)
            given = small_net(chance, chance.randint(1, 3), chance.randint(0, 2))
            with self.subTest(seed=seed):
                seen.append(self.check(given, chance.randrange(len(given[0])), seed % 6))
        self.assertGreater(sum(many is not None and many > 1 for many in seen), 60)

    def test_greater_nets(self):
        for seed in range(150, 200):
            chance = random.Random(seed)
            given = chance_net(chance, chance.randint(1, 12), chance.randint(0, 12))
            with self.subTest(seed=seed):
                self.check(given, chance.randrange(len(given[0])), seed % 6)

    def test_rows_of_pourings(self):
        for seed in range(30):
            chance = random.Random(seed)
            given = small_net(chance, 2, 1)
            most = seed % 3
            if self.check(given, 1, most) is not None:
                machine = least(given, 1, most)
                rows = list(product(range(most + 1), repeat=4))
                rows += [[chance.randint(0, most) for _ in range(100)] for _ in range(5)]
                for row in rows:
                    self.assertEqual(machine_tips(machine, row), plain_tips_along(given, 1, row))


class Edges(LeastCase):
    def test_just_two_hundred_states(self):
        self.assertEqual(self.check(clocks(8, 25), 0, 0), 8)
        self.assertEqual(self.check(with_idle(clocks(8, 25)), 2, 0), 1)
        self.assertEqual(self.check(hand_counter(9, 20), 0, 1), 9)
        # Where 1 is coming it is as if it were there, but where it is the last one.
        self.assertEqual(self.check(hand_counter(9, 20), 1, 5), 181)
        self.assertIsNotNone(self.check(with_start(clocks(199 // 7, 7)), 0, 0))

    def test_one_state_more(self):
        for given in (with_start(clocks(8, 25)), with_start(with_idle(clocks(8, 25)))):
            self.assertIsNone(self.check(given, 0, 0))
            # The vessel that starts and the one that is idle have few rooms, and are refused none the less.
            self.assertIsNone(self.check(given, 2, 0))
        for most in (1, 5):
            self.assertIsNone(self.check(with_start(hand_counter(9, 20)), 0, most))
            self.assertIsNone(self.check(with_start(hand_counter(9, 20)), 2, most))

    def test_all_mosts(self):
        for most in range(6):
            self.assertEqual(self.check(net(vessel(60, 60)), 0, most), 60 if most else 1)


class OwnLists(LeastCase):
    def test_what_is_told_is_the_askers_own(self):
        given = hand_counter(2, 2)
        due = least(given, 1, 2)
        kept = [list(room) for room in due]
        for room in least(given, 1, 2):
            room.append("more")
        for room in least(given, 1, 2):
            room.clear()
        least(given, 1, 2).clear()
        self.assertEqual(least(given, 1, 2), kept)
        self.assertEqual(due, kept)

    def test_no_list_is_told_twice_within_it(self):
        machine = least(hand_counter(2, 3), 1, 2)
        before = [list(room) for room in machine]
        machine[0].append("more")
        self.assertEqual(machine[1:], before[1:])

    def test_a_refusal_changes_nothing(self):
        given = with_start(clocks(8, 25))
        for _ in range(2):
            self.assert_refused(TooMany, least, given, 0, 0)
        self.assertEqual(least(clocks(1), 0, 0), [[(0, True)]])


class SomewhatBeyond(LeastCase):
    def test_no_error(self):
        self.assertEqual(self.check(net(vessel(9, 9)), 0, 9), 9)
        self.assertEqual(least(net(vessel(9, 9)), 4, 1), [[(0, False), (0, False)]])


if __name__ == "__main__":
    unittest.main()
