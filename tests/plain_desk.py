"""A second telling of promise 18: what each row is answered by, or refused with, of the steps that were told so far."""

import re

from plain_run import plain_run
from tipwell.errors import NoRow, Nothing, NoVessel, TipError, TooMuch
from tipwell.rounds import round_of
from tipwell.soonest import soonest
from tipwell.stuck import stuck

NUMBER = "(0|[1-9][0-9]{0,8})"
ROWS = [
    re.compile(row.replace("N", NUMBER)) for row in (
        "(pour) N N", "(go) N", "(held)", "(coming)", "(doors)", "(tick)", "(came)", "(grounded)", "(tips) N", "(back)",
        "(round)", "(stuck) N", "(soonest) N ([0-5])",
    )
]


class PlainDesk:
    def __init__(self, net):
        self.net = net
        self.steps = []
        self.known = {}

    def say(self, row):
        """The answer, or the class of the refusal."""
        matches = [form.fullmatch(row) for form in ROWS if isinstance(row, str) and form.fullmatch(row)]
        if not matches:
            return NoRow
        word, *numbers = matches[0].groups()
        numbers = [int(number) for number in numbers]
        if word in ("pour", "tips", "stuck", "soonest") and numbers[0] >= len(self.net[0]):
            return NoVessel
        if word in ("pour", "go"):
            return self.do((word, *numbers))
        if word == "back":
            if not self.steps:
                return Nothing
            self.steps.pop()
            return "ok"
        try:
            return self.asked(word, numbers)
        except TipError as refusal:
            return type(refusal)

    def do(self, step):
        if step[0] == "go":
            too_much = sum(step[1] for step in self.steps if step[0] == "go") + step[1] > 3000
        else:
            too_much = self.waiting(step[1]) + step[2] > 1000
        if too_much:
            return TooMuch
        self.steps.append(step)
        return "ok"

    def waiting(self, vessel):
        """What is poured into the vessel since the last tick."""
        amount = 0
        for step in self.steps:
            if step[0] == "pour" and step[1] == vessel:
                amount += step[2]
            if step[0] == "go" and step[1] > 0:
                amount = 0
        return amount

    def told(self):
        """All that is told of these steps, gone anew from the first one on where they were not asked about yet."""
        steps = tuple(self.steps)
        if steps not in self.known:
            self.known[steps] = plain_run(self.net, steps)
        return self.known[steps]

    def asked(self, word, numbers):
        if word == "round":
            return "%d %d" % round_of(self.net)
        if word == "stuck":
            told = stuck(self.net, numbers[0])
            return "none" if told is None else "%d %d" % told
        if word == "soonest":
            told, row = soonest(self.net, *numbers)
            return " ".join(map(str, row)) if told == "tips" else "never"
        told = self.told()
        if word in ("tick", "came", "grounded"):
            return str(told[word])
        if word == "tips":
            return " ".join(map(str, told["tips"][numbers[0]])) or "none"
        if word == "doors":
            return " ".join("open" if door else "shut" for door in told["state"][2]) or "none"
        return " ".join(map(str, told["state"][0 if word == "held" else 1]))
