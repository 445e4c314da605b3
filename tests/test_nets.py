"""Promise 4: what a net is, told of anything (2)."""

import copy
import random
import unittest

from samples import WORDS, chance_net, net, spout, vessel
from tipwell.nets import is_net


class NetCase(unittest.TestCase):
    def assert_net(self, thing):
        self.assertIs(is_net(thing), True, thing)

    def assert_no_net(self, thing):
        self.assertIs(is_net(thing), False, thing)


class Counts(NetCase):
    def test_one_to_twelve_vessels(self):
        for count in range(1, 13):
            self.assert_net(net(*[vessel()] * count))

    def test_no_vessel_and_thirteen(self):
        self.assert_no_net(net())
        self.assert_no_net(net(spouts=(spout(),)))
        self.assert_no_net(net(*[vessel()] * 13))

    def test_no_spout_to_twelve(self):
        for count in range(13):
            self.assert_net(net(vessel(), spouts=(spout(),) * count))

    def test_thirteen_spouts(self):
        self.assert_no_net(net(vessel(), spouts=(spout(),) * 13))

    def test_one_to_three_outs(self):
        for count in (1, 2, 3):
            self.assert_net(net(vessel(outs=((None, 1),) * count)))
        for count in (0, 4):
            self.assert_no_net(net(vessel(outs=((None, 1),) * count)))

    def test_no_act_to_three(self):
        for count in range(4):
            self.assert_net(net(vessel(acts=(("open", 0),) * count), spouts=(spout(),)))
        self.assert_no_net(net(vessel(acts=(("open", 0),) * 4), spouts=(spout(),)))


class Bounds(NetCase):
    def test_size(self):
        for size in (1, 2, 59, 60):
            self.assert_net(net(vessel(size=size, brim=100)))
        for size in (-1, 0, 61):
            self.assert_no_net(net(vessel(size=size, brim=100)))

    def test_brim(self):
        for size in (1, 30, 60):
            for brim in (size, size + 1, 199, 200):
                self.assert_net(net(vessel(size=size, brim=brim)))
            for brim in (-size, 0, size - 1, 201):
                self.assert_no_net(net(vessel(size=size, brim=brim)))

    def test_parts(self):
        for place in range(3):
            for parts in (1, 60):
                self.assert_net(net(vessel(outs=self.outs_with(place, (None, parts)))))
            for parts in (-1, 0, 61):
                self.assert_no_net(net(vessel(outs=self.outs_with(place, (None, parts)))))

    def outs_with(self, place, out):
        outs = [(None, 7)] * 3
        outs[place] = out
        return tuple(outs)

    def test_flow(self):
        for flow in (0, 1, 60):
            self.assert_net(net(vessel(), spouts=(spout(flow=flow),)))
        for flow in (-1, 61):
            self.assert_no_net(net(vessel(), spouts=(spout(flow=flow),)))


class Numbers(NetCase):
    """What leads to a vessel or to a spout, in nets of three vessels and of twelve."""

    def with_vessel(self, count, number, changed):
        vessels = [vessel()] * count
        vessels[number] = changed
        return net(*vessels, spouts=(spout(), spout()))

    def test_targets_of_outs(self):
        for count in (1, 3, 12):
            for number in range(count):
                for target in [None] + list(range(count)):
                    self.assert_net(self.with_vessel(count, number, vessel(outs=((target, 1),))))
                for target in (-1, -count, count, count + 1):
                    self.assert_no_net(self.with_vessel(count, number, vessel(outs=((target, 1),))))

    def test_spill(self):
        for count in (1, 3, 12):
            for number in range(count):
                for spill in [None] + list(range(number + 1, count)):
                    self.assert_net(self.with_vessel(count, number, vessel(spill=spill)))
                for spill in [-1, -count, count, count + 1] + list(range(number + 1)):
                    self.assert_no_net(self.with_vessel(count, number, vessel(spill=spill)))

    def test_targets_of_spouts(self):
        for count in (1, 3, 12):
            for target in range(count):
                self.assert_net(net(*[vessel()] * count, spouts=(spout(target),)))
            for target in (None, -1, -count, count, count + 1):
                self.assert_no_net(net(*[vessel()] * count, spouts=(spout(target),)))
                self.assert_no_net(net(*[vessel()] * count, spouts=(spout(),) * 11 + (spout(target),)))

    def test_spouts_of_acts(self):
        for word in WORDS:
            for count in (1, 3, 12):
                spouts = (spout(),) * count
                for number in range(count):
                    self.assert_net(net(vessel(), vessel(acts=((word, number),)), spouts=spouts))
                for number in (None, -1, -count, count, count + 1):
                    self.assert_no_net(net(vessel(), vessel(acts=((word, number),)), spouts=spouts))

    def test_act_without_any_spout(self):
        for number in (-1, 0, 1):
            self.assert_no_net(net(vessel(acts=(("open", number),))))

    def test_words_of_acts(self):
        three = tuple((word, 0) for word in WORDS)
        self.assert_net(net(vessel(acts=three), spouts=(spout(),)))
        for word in ("", "Open", "OPEN", "opened", "ope", " open", "openshut", "close", "holds", "0"):
            for place in range(3):
                acts = three[:place] + ((word, 0),) + three[place + 1:]
                self.assert_no_net(net(vessel(acts=acts), spouts=(spout(),)))

    def test_truths(self):
        for truth in (True, False):
            self.assert_net(net(vessel(holds=truth)))
            self.assert_net(net(vessel(), spouts=(spout(door=truth),)))

    def test_what_is_wrong_in_the_last_place(self):
        for count in (2, 12):
            self.assert_no_net(self.with_vessel(count, count - 1, vessel(size=0)))
            self.assert_no_net(self.with_vessel(count, 0, vessel(size=0)))


class ChanceNets(NetCase):
    def test_nets_by_chance(self):
        chance = random.Random(4)
        for vessel_count in range(1, 13):
            for spout_count in range(13):
                self.assert_net(chance_net(chance, vessel_count, spout_count))


WHOLE = (
    (
        (5, 9, ((1, 2), (None, 3)), True, 1, (("open", 0), ("turn", 1))),
        (60, 200, ((0, 60),), False, None, (("shut", 1),)),
    ),
    ((0, 0, True), (1, 60, False)),
)

SIXTY_FIGURES = 10 ** 59
OTHERS = (
    True, False, None, "", "5", "open ", "~ text", 6 * SIXTY_FIGURES, -6 * SIXTY_FIGURES,
    [], [5], [[]], [(5,)], (5,), ((),), ((5,),), (None,), ("open",), (True,), (0, 0, 0, 0, 0, 0, 0),
)


def places(thing, path=()):
    """Each place within the thing, at each depth, and the thing itself."""
    found = [path]
    if isinstance(thing, tuple):
        for index, part in enumerate(thing):
            found += places(part, path + (index,))
    return found


def at(thing, path):
    for index in path:
        thing = thing[index]
    return thing


def changed(thing, path, new):
    if not path:
        return new
    index = path[0]
    return thing[:index] + (changed(thing[index], path[1:], new),) + thing[index + 1:]


def takes_none(path):
    """Whether the place is an out's target or a spill."""
    in_vessel = path[:1] == (0,)
    is_target = in_vessel and len(path) == 5 and path[2] == 2 and path[4] == 0
    is_spill = in_vessel and len(path) == 3 and path[2] == 4
    return is_target or is_spill


def takes_truth(path):
    holds = path[:1] == (0,) and len(path) == 3 and path[2] == 3
    door = path[:1] == (1,) and len(path) == 3 and path[2] == 2
    return holds or door


class Anything(NetCase):
    """True or False of anything, whatever stands at whatever place."""

    def test_the_whole_one_is_a_net(self):
        self.assert_net(WHOLE)

    def test_another_kind_at_each_place(self):
        for path in places(WHOLE):
            for other in OTHERS:
                due = (other is None and takes_none(path)) or (isinstance(other, bool) and takes_truth(path))
                with self.subTest(path=path, other=other):
                    self.assertIs(is_net(changed(WHOLE, path, other)), due)

    def test_a_number_for_a_truth(self):
        for path in places(WHOLE):
            if takes_truth(path):
                for number in (0, 1, -1):
                    self.assert_no_net(changed(WHOLE, path, number))

    def test_a_truth_for_a_number_that_it_equals(self):
        for one in (True, False):
            self.assert_no_net(net(vessel(size=one, brim=9)))
            self.assert_no_net(net(vessel(size=1, brim=one)))
            self.assert_no_net(net(vessel(), vessel(), vessel(outs=((one, 1),))))
            self.assert_no_net(net(vessel(outs=((None, one),))))
            self.assert_no_net(net(vessel(spill=one), vessel()))
            self.assert_no_net(net(vessel(acts=(("open", one),)), spouts=(spout(), spout())))
            self.assert_no_net(net(vessel(), vessel(), spouts=(spout(one),)))
            self.assert_no_net(net(vessel(), vessel(), spouts=(spout(flow=one),)))

    def test_a_list_for_a_tuple(self):
        for path in places(WHOLE):
            part = at(WHOLE, path)
            if isinstance(part, tuple):
                self.assert_no_net(changed(WHOLE, path, list(part)))

    def test_a_tuple_for_a_number_or_any_other_single_thing(self):
        for path in places(WHOLE):
            part = at(WHOLE, path)
            if not isinstance(part, tuple):
                self.assert_no_net(changed(WHOLE, path, (part,)))
                self.assert_no_net(changed(WHOLE, path, ()))

    def test_a_text_for_a_number(self):
        for path in places(WHOLE):
            part = at(WHOLE, path)
            if isinstance(part, int):
                self.assert_no_net(changed(WHOLE, path, str(part)))

    def test_a_thing_more(self):
        counted = [(), (0, 0), (0, 1), (1, 0), (1, 1)]
        counted += [path for path in places(WHOLE) if len(path) == 4 and path[2] in (2, 5)]
        for path in counted:
            part = at(WHOLE, path)
            for more in (0, None, True, "", (), part[-1]):
                self.assert_no_net(changed(WHOLE, path, part + (more,)))
                self.assert_no_net(changed(WHOLE, path, (more,) + part))

    def test_a_wrong_thing_more_where_there_may_be_more(self):
        for path in ((0,), (1,), (0, 0, 2), (0, 1, 2), (0, 0, 5), (0, 1, 5)):
            part = at(WHOLE, path)
            for more in (0, None, True, "", (), [], (0,), ("open", "shut")):
                self.assert_no_net(changed(WHOLE, path, part + (more,)))
                self.assert_no_net(changed(WHOLE, path, (more,) + part))

    def test_a_thing_fewer(self):
        counted = [(), (0, 0), (0, 1), (1, 0), (1, 1)]
        counted += [path for path in places(WHOLE) if len(path) == 4 and path[2] in (2, 5)]
        for path in counted:
            part = at(WHOLE, path)
            for index in range(len(part)):
                self.assert_no_net(changed(WHOLE, path, part[:index] + part[index + 1:]))

    def test_what_is_no_net_at_all(self):
        deep_list, deep_tuple = [], ()
        for _ in range(5000):
            deep_list, deep_tuple = [deep_list], (deep_tuple,)
        for thing in (deep_list, deep_tuple):
            self.assertIs(is_net(thing), False)
            self.assertIs(is_net((thing, ())), False)
            self.assertIs(is_net(((thing,), ())), False)
            for path in places(WHOLE):
                self.assertIs(is_net(changed(WHOLE, path, thing)), False)

    def test_wide_things(self):
        self.assert_no_net((vessel(),) * 1000)
        self.assert_no_net(((vessel(),) * 1000, ()))

    def test_nothing_handed_in_is_changed(self):
        for thing in ([[vessel()], [spout()]], ([vessel()], []), ((list(vessel()),), ()), [[], [[]]]):
            before = copy.deepcopy(thing)
            is_net(thing)
            self.assertEqual(thing, before)

    def test_what_is_done_to_it_later_changes_nothing(self):
        inner = [vessel()]
        self.assert_no_net((inner, ()))
        inner.clear()
        self.assert_no_net((inner, ()))
        self.assert_net(((vessel(),), ()))


if __name__ == "__main__":
    unittest.main()
