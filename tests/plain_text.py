"""A second telling of promise 17: a net written word by word, and a text read by what its lines look like."""

import re

from tipwell.nets import is_net

NUMBER = "(?:0|[1-9][0-9]*)"
TARGET = f"(?:{NUMBER}|ground)"
OUT = f"{TARGET}[*]{NUMBER}"
ACT = f"(?:open|shut|turn)[.]{NUMBER}"
VESSEL = re.compile(
    f"vessel ({NUMBER}) ({NUMBER}) ({OUT}(?:,{OUT})*) (holds|loses) ({TARGET}) ({ACT}(?:,{ACT})*|-)"
)
SPOUT = re.compile(f"spout ({NUMBER}) ({NUMBER}) (open|shut)")


def plain_text(net):
    text = ""
    for size, brim, outs, holds, spill, acts in net[0]:
        text += "vessel " + str(size) + " " + str(brim) + " "
        for place, (target, parts) in enumerate(outs):
            text += ("," if place else "") + ("ground" if target is None else str(target)) + "*" + str(parts)
        text += " holds " if holds else " loses "
        text += "ground " if spill is None else str(spill) + " "
        for place, (word, spout) in enumerate(acts):
            text += ("," if place else "") + word + "." + str(spout)
        text += "\n" if acts else "-\n"
    for target, flow, door in net[1]:
        text += "spout " + str(target) + " " + str(flow) + (" open\n" if door else " shut\n")
    return text[:-1]


def plain_number(word):
    # A number of many figures is beyond every bound, and Python reads no number of some thousand figures.
    return int(word) if len(word) < 9 else 10 ** 9


def plain_target(word):
    return None if word == "ground" else plain_number(word)


def plain_read(text):
    """The net, or None where the text writes none."""
    vessels, spouts = [], []
    for line in text.split("\n"):
        vessel, spout = VESSEL.fullmatch(line), SPOUT.fullmatch(line)
        if vessel and not spouts:
            size, brim, outs, holds, spill, acts = vessel.groups()
            pairs = [out.split("*") for out in outs.split(",")]
            doings = [] if acts == "-" else [act.split(".") for act in acts.split(",")]
            vessels.append((
                plain_number(size), plain_number(brim),
                tuple((plain_target(target), plain_number(parts)) for target, parts in pairs),
                holds == "holds", plain_target(spill),
                tuple((word, plain_number(number)) for word, number in doings),
            ))
        elif spout:
            target, flow, door = spout.groups()
            spouts.append((plain_number(target), plain_number(flow), door == "open"))
        else:
            return None
    net = (tuple(vessels), tuple(spouts))
    return net if is_net(net) else None
