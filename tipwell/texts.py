"""Nets written as texts, and read from them: promise 17 of the document."""

from tipwell.errors import NoText
from tipwell.nets import is_net

MOST_FIGURES = 9


def net_text(net):
    """Write the net: a line for each vessel, then one for each spout."""
    vessels, spouts = net
    return "\n".join([vessel_line(vessel) for vessel in vessels] + [spout_line(spout) for spout in spouts])


def vessel_line(vessel):
    """Write the line of a vessel."""
    size, brim, outs, holds, spill, acts = vessel
    out_words = ",".join([f"{target_word(target)}*{parts}" for target, parts in outs])
    act_words = ",".join([f"{word}.{spout}" for word, spout in acts]) if acts else "-"
    holds_word = "holds" if holds else "loses"
    return f"vessel {size} {brim} {out_words} {holds_word} {target_word(spill)} {act_words}"


def spout_line(spout):
    """Write the line of a spout."""
    target, flow, door = spout
    return f"spout {target} {flow} {door_word(door)}"


def target_word(target):
    """Write where something goes: a vessel's number, or the ground."""
    return "ground" if target is None else str(target)


def door_word(door):
    """Write whether a spout is open."""
    return "open" if door else "shut"


def read_net(text):
    """Tell the net of which this text is written."""
    if not isinstance(text, str):
        raise NoText("a net is read from a text")
    vessels, spouts = [], []
    for line in text.split("\n"):
        word, *rest = line.split(" ")
        if word == "vessel" and len(rest) == 6:
            vessels.append(read_vessel(rest))
        elif word == "spout" and len(rest) == 3:
            spouts.append(read_spout(rest))
        else:
            raise NoText("a line is neither a vessel's nor a spout's")
    net = (tuple(vessels), tuple(spouts))
    # Lines in another order and words not told would be read to some net, too: only how it is written itself will do.
    if not is_net(net) or net_text(net) != text:
        raise NoText("no net is written so")
    return net


def read_vessel(words):
    """Read the words of a vessel's line behind the first one."""
    size, brim, out_words, holds_word, spill, act_words = words
    outs = []
    for out_word in out_words.split(","):
        target, sign, parts = out_word.partition("*")
        outs.append((read_target(target), read_number(parts)))
    return (
        read_number(size), read_number(brim), tuple(outs), holds_word == "holds", read_target(spill),
        read_acts(act_words),
    )


def read_acts(act_words):
    """Read the acts of a vessel."""
    if act_words == "-":
        return ()
    acts = []
    for act_word in act_words.split(","):
        word, sign, spout = act_word.partition(".")
        acts.append((word, read_number(spout)))
    return tuple(acts)


def read_spout(words):
    """Read the words of a spout's line behind the first one."""
    target, flow, door = words
    return read_number(target), read_number(flow), door == "open"


def read_target(word):
    """Read where something goes: a vessel's number, or None for the ground."""
    return None if word == "ground" else read_number(word)


def read_number(word):
    """Read a number of a net."""
    if not is_number(word):
        raise NoText("what should be a number is none")
    return int(word)


def is_number(word):
    """Tell whether the word is a number by figures, without noughts ahead, of at most nine figures."""
    # Python takes other signs for figures, too, and noughts ahead: neither is how it writes the number.
    return word.isdecimal() and len(word) <= MOST_FIGURES and str(int(word)) == word
