"""Promise 17: nets written as texts and read from them, and texts that no net is written as."""

import unittest

from kinds import KindCase
from plain_text import plain_read, plain_text
from samples import chance_given, clocks, net, spout, vessel
from tipwell.errors import NoText
from tipwell.texts import net_text, read_net

SIGNS = [chr(code) for code in range(32, 127)] + ["\n"]
WORDS = (
    "vessel", "spout", "ground", "holds", "loses", "open", "shut", "turn", "-", "0", "1", "2", "7", "12", "60", "61",
    "200", "201", "00", "01", "+1", "-1", "-0", "1_0", "1.0", "0*1", "1*1", "ground*1", "ground*0", "ground*61",
    "ground*1,1*1", "open.0", "shut.1", "turn.0,turn.0", "open.0,", ",open.0", "None", "True", "none", "", " ", "x",
    "9" * 40, "1" * 5000,
)
# Every sort of word is in it.
MIXED = net(
    vessel(2, 10, ((1, 3), (None, 60)), True, 1, (("open", 0), ("turn", 1))), vessel(1, 1),
    spouts=(spout(0, 10), spout(1, 0, False)),
)
MIXED_TEXT = (
    "vessel 2 10 1*3,ground*60 holds 1 open.0,turn.1\nvessel 1 1 ground*1 loses ground -\n"
    "spout 0 10 open\nspout 1 0 shut"
)


def edge_nets():
    """Nets with each number and each count at its edges."""
    for size, brim in ((1, 1), (1, 200), (60, 60), (60, 200), (9, 10), (10, 99), (59, 100)):
        yield net(vessel(size, brim))
    for parts in (1, 9, 10, 60):
        yield net(vessel(outs=((None, parts),)), vessel(outs=((0, parts), (1, 1), (None, parts))))
    for many in (1, 2, 9, 10, 11, 12):
        last = many - 1
        yield net(*[vessel(outs=((number, 1), (0, 2), (last, 3))) for number in range(many)])
        yield net(*[vessel(spill=number + 1 if number < last else None) for number in range(many)])
        yield net(*[vessel(spill=last if number < last else None) for number in range(many)])
        yield net(*[vessel()] * many, spouts=tuple(spout(number) for number in range(many)))
    for many in (0, 1, 2, 9, 10, 11, 12):
        yield net(vessel(), spouts=(spout(),) * many)
    for acts in ((), (("open", 0),), (("shut", 11), ("turn", 10)), (("turn", 0), ("open", 11), ("shut", 9))):
        yield net(vessel(acts=acts), vessel(holds=True, acts=acts[::-1]), spouts=(spout(),) * 12)
    for flow in (0, 1, 9, 10, 60):
        yield net(vessel(), spouts=(spout(0, flow, False), spout(0, flow, True)))


def spoilt(chance, parts, others):
    """The parts with one other, one fewer, one more, or two exchanged."""
    parts, place = list(parts), chance.randrange(len(parts))
    how = chance.randrange(4)
    if how == 0:
        parts[place] = chance.choice(others)
    elif how == 1:
        del parts[place]
    elif how == 2:
        parts.insert(chance.randint(0, len(parts)), chance.choice(others))
    else:
        other = chance.randrange(len(parts))
        parts[place], parts[other] = parts[other], parts[place]
    return parts


class TextCase(KindCase):
    def assert_written(self, given):
        text = net_text(given)
        self.assertIs(type(text), str)
        self.assertEqual(text, plain_text(given))
        # By their repr, in which a truth is no number and a list no tuple.
        self.assertEqual(repr(read_net(text)), repr(given))

    def check_read(self, text):
        """Read where some net is just so written, else refused; tell which."""
        due = plain_read(text)
        if due is None:
            self.assert_refused(NoText, read_net, text)
        else:
            self.assertEqual(repr(read_net(text)), repr(due))
            self.assertEqual(net_text(due), text)
        return due is not None

    def assert_none(self, text):
        self.assertFalse(self.check_read(text), text)


class Written(TextCase):
    def test_by_hand(self):
        self.assertEqual(net_text(MIXED), MIXED_TEXT)
        self.assertEqual(read_net(MIXED_TEXT), MIXED)
        self.assertEqual(net_text(net(vessel(3, 4))), "vessel 3 4 ground*1 loses ground -")
        self.assertEqual(net_text(clocks(3)), "vessel 3 3 ground*1 loses ground -\nspout 0 1 open")

    def test_every_edge(self):
        for given in edge_nets():
            self.assert_written(given)

    def test_by_chance(self):
        for seed in range(300):
            self.assert_written(chance_given(seed)[1])

    def test_the_longest(self):
        there = vessel(60, 200, ((None, 60),) * 3, True, None, (("shut", 11),) * 3)
        self.assert_written(net(*[there] * 12, spouts=(spout(11, 60),) * 12))

    def test_unlike_nets_are_written_unlike(self):
        texts = {net_text(given): given for given in list(edge_nets()) + [chance_given(seed)[1] for seed in range(300)]}
        for text, given in texts.items():
            self.assertEqual(read_net(text), given)

    def test_somewhat_beyond(self):
        beyond = net(*[vessel(61, 201, ((None, 61),) * 4, acts=(("turn", 0),) * 4)] * 13, spouts=(spout(0, 61),) * 13)
        self.assert_refused(NoText, read_net, net_text(beyond))


class Spoilt(TextCase):
    def test_every_sign_of_a_short_one(self):
        text = "vessel 2 3 0*1,ground*2 holds ground open.0\nspout 0 1 shut"
        read = 0
        for place in range(len(text) + 1):
            for sign in SIGNS:
                read += self.check_read(text[:place] + sign + text[place:])
                read += self.check_read(text[:place] + sign + text[place + 1:])
            self.check_read(text[:place] + text[place + 1:])
            self.check_read(text[:place] + text[place + 1:place + 2] + text[place:place + 1] + text[place + 2:])
        self.assertGreater(read, 100)

    def test_signs_words_and_lines_by_chance(self):
        seen = {"read": 0, "refused": 0}
        for seed in range(200):
            chance, given = chance_given(seed)
            text = plain_text(given)
            lines = text.split("\n")
            others = lines + plain_text(chance_given(seed + 1)[1]).split("\n")
            for _ in range(8):
                place = chance.randrange(len(lines))
                words = " ".join(spoilt(chance, lines[place].split(" "), WORDS))
                for other in (
                    "".join(spoilt(chance, text, SIGNS)),
                    "\n".join(lines[:place] + [words] + lines[place + 1:]),
                    "\n".join(spoilt(chance, lines, others)),
                ):
                    seen["read" if self.check_read(other) else "refused"] += 1
        self.assertGreater(min(seen.values()), 500, seen)

    def test_every_word_in_every_place(self):
        lines = MIXED_TEXT.split("\n")
        read = 0
        for at, line in enumerate(lines):
            words = line.split(" ")
            for place in range(len(words)):
                for word in WORDS:
                    changed = " ".join(words[:place] + [word] + words[place + 1:])
                    read += self.check_read("\n".join(lines[:at] + [changed] + lines[at + 1:]))
        self.assertGreater(read, 50)

    def test_numbers_at_and_beyond_each_bound(self):
        def one(size="5", brim="9", outs="ground*1", spill="ground", acts="-", spouts="spout 1 2 open"):
            return (
                f"vessel {size} {brim} {outs} loses {spill} {acts}\nvessel 1 1 ground*1 loses ground -\n{spouts}"
            )

        for text in (
            one(), one(size="1"), one(size="9"), one("60", "60"), one("60", "200"), one(outs="1*60"), one(spill="1"),
            one(outs="0*1,1*1,0*1"), one(acts="open.0,shut.0,turn.0"), one(spouts="spout 0 0 shut"),
            one(spouts="spout 1 60 shut"),
        ):
            self.assertTrue(self.check_read(text), text)
        for text in (
            one(size="0"), one(size="10"), one("61", "61"), one("60", "201"), one("60", "59"), one(outs="1*61"),
            one(outs="1*0"), one(outs="2*1"), one(outs="-1*1"), one(outs="1*-1"), one(spill="0"), one(spill="2"),
            one(outs="0*1,1*1,0*1,0*1"), one(outs=""), one(outs="-"), one(outs="0*1,"), one(outs=",0*1"),
            one(acts="open.1"), one(acts="open.0,shut.0,turn.0,turn.0"), one(acts=""), one(acts="open"),
            one(acts="open.0,"), one(acts="-,open.0"), one(acts="fill.0"), one(acts="open.ground"), one(acts=".0"),
            one(spouts="spout 2 2 open"), one(spouts="spout 1 61 open"), one(spouts="spout 1 -1 open"),
            one(spouts="spout ground 1 open"), one(spouts="spout 1 2 wide"), one(spouts="spout 1 2 turn"),
        ):
            self.assert_none(text)

    def test_counts_at_and_beyond_each_bound(self):
        there, flow = "vessel 1 1 ground*1 loses ground -", "spout 0 1 open"
        for many in (1, 12):
            for spouts in (0, 1, 12):
                self.assertTrue(self.check_read("\n".join([there] * many + [flow] * spouts)))
        for many, spouts in ((0, 0), (0, 1), (13, 0), (1, 13), (13, 13), (100, 0), (1, 100)):
            self.assert_none("\n".join([there] * many + [flow] * spouts))

    def test_blanks_and_line_ends(self):
        for text in (
            " " + MIXED_TEXT, MIXED_TEXT + " ", "\n" + MIXED_TEXT, MIXED_TEXT + "\n",
            MIXED_TEXT.replace("\n", "\n\n", 1),
            MIXED_TEXT.replace(" ", "  ", 1), MIXED_TEXT.replace("\n", " \n", 1), MIXED_TEXT.replace("\n", "\n ", 1),
            MIXED_TEXT.replace("\n", " "), MIXED_TEXT.replace(" ", "\n"), MIXED_TEXT.replace(",", ", "),
            MIXED_TEXT.replace("*", " * "), MIXED_TEXT.replace("*", "**"), MIXED_TEXT.replace(".", ".."),
        ):
            self.assert_none(text)

    def test_noughts_and_signs_ahead_of_each_number(self):
        for place, sign in enumerate(MIXED_TEXT):
            if sign.isdigit() and not MIXED_TEXT[place - 1].isdigit():
                for ahead in ("0", "00", "+", "-", "+0", " "):
                    self.assert_none(MIXED_TEXT[:place] + ahead + MIXED_TEXT[place:])

    def test_numbers_of_many_figures(self):
        for place, sign in enumerate(MIXED_TEXT):
            if sign.isdigit():
                for figures in ("9" * 9, "1" * 10, "1" + "0" * 60, "3" * 3900, "3" * 5000):
                    self.assert_none(MIXED_TEXT[:place] + figures + MIXED_TEXT[place + 1:])

    def test_spouts_ahead_of_vessels(self):
        lines = MIXED_TEXT.split("\n")
        self.assert_none("\n".join(lines[2:] + lines[:2]))
        self.assert_none("\n".join([lines[0], lines[2], lines[1], lines[3]]))
        self.assert_none("\n".join(lines[2:]))

    def test_empty_and_other_texts(self):
        for text in (
            "", " ", "\n", "\n\n", "-", "vessel", "spout", "spout 0 1 open", "vessel 1 1 ground*1 loses ground",
            "Vessel 1 1 ground*1 loses ground -", "vessel 1 1 ground*1 Loses ground -", "x" * 4000, " " * 4000,
            "vessel 1 1 Ground*1 loses ground -", "vessel 1 1 ground*1 loses ground - -",
        ):
            self.assert_none(text)

    def test_figures_of_other_scripts_are_none(self):
        for figure in ("\u0661", "\u00b2", "\uff11"):
            self.assert_refused(NoText, read_net, f"vessel {figure} 9 ground*1 loses ground -")


class NoTexts(TextCase):
    def test_what_is_no_text(self):
        for thing in (
            0, 1, -5, 10 ** 59, None, True, False, [], (), [MIXED_TEXT], (MIXED_TEXT,), list(MIXED_TEXT), MIXED,
            [["vessel"]],
        ):
            self.assert_refused(NoText, read_net, thing)

    def test_a_refusal_changes_nothing(self):
        thing = [MIXED_TEXT, ["vessel"]]
        self.assert_refused(NoText, read_net, thing)
        self.assertEqual(thing, [MIXED_TEXT, ["vessel"]])
        self.assertEqual(read_net(MIXED_TEXT), MIXED)


if __name__ == "__main__":
    unittest.main()
