"""A desk, which answers rows about a run of a net: promise 18 of the document."""

from tipwell.errors import NoRow, TooMuch
from tipwell.moments import most_to_go, most_to_pour
from tipwell.nets import need_vessel
from tipwell.rounds import round_of
from tipwell.runs import Run
from tipwell.soonest import soonest
from tipwell.stuck import stuck
from tipwell.texts import door_word, is_number, read_net

MOST_POURING = 5


def answer_pour(run, numbers):
    """Pour, where it is not too much for the vessel and the tick."""
    vessel, amount = numbers
    need_vessel(run.net, vessel)
    if amount > most_to_pour(run.moments[-1], vessel):
        raise TooMuch("so much is not poured into a vessel with one tick")
    run.pour(vessel, amount)
    return "ok"


def answer_go(run, numbers):
    """Go, where it is not too far."""
    if numbers[0] > most_to_go(run.moments[-1]):
        raise TooMuch("a run does not go so far")
    run.go(numbers[0])
    return "ok"


def answer_back(run, numbers):
    """Take back what was poured or gone last."""
    run.back()
    return "ok"


def answer_held(run, numbers):
    """Tell what each vessel holds."""
    return with_blanks(run.state()[0])


def answer_coming(run, numbers):
    """Tell what is coming to each vessel."""
    return with_blanks(run.state()[1])


def answer_doors(run, numbers):
    """Tell which spouts are open and which are shut."""
    return with_blanks([door_word(door) for door in run.state()[2]])


def answer_tick(run, numbers):
    """Tell how many ticks are gone."""
    return str(run.tick())


def answer_came(run, numbers):
    """Tell how much came in."""
    return str(run.came())


def answer_grounded(run, numbers):
    """Tell how much went to the ground."""
    return str(run.grounded())


def answer_tips(run, numbers):
    """Tell the ticks with which the vessel tipped."""
    return with_blanks(run.tips(numbers[0]))


def answer_round(run, numbers):
    """Tell the round of the net."""
    return with_blanks(round_of(run.net))


def answer_stuck(run, numbers):
    """Tell what the vessel changes first by being stuck."""
    change = stuck(run.net, numbers[0])
    return "none" if change is None else with_blanks(change)


def answer_soonest(run, numbers):
    """Tell the soonest row of pourings that tips the vessel."""
    word, found = soonest(run.net, numbers[0], numbers[1])
    return with_blanks(found) if word == "tips" else "never"


def with_blanks(things):
    """Write the things with blanks between."""
    return " ".join([str(thing) for thing in things]) if things else "none"


ANSWERS = {
    "pour": answer_pour,
    "go": answer_go,
    "held": answer_held,
    "coming": answer_coming,
    "doors": answer_doors,
    "tick": answer_tick,
    "came": answer_came,
    "grounded": answer_grounded,
    "tips": answer_tips,
    "back": answer_back,
    "round": answer_round,
    "stuck": answer_stuck,
    "soonest": answer_soonest,
}
# How many numbers follow the word; none where it is not told here.
NUMBER_COUNTS = {"pour": 2, "go": 1, "tips": 1, "stuck": 1, "soonest": 2}


class Desk:
    """A run of the net that a text writes, told and asked by rows."""

    def __init__(self, text):
        self.run = Run(read_net(text))

    def say(self, row):
        """Do what the row tells, and answer it."""
        word, numbers = read_row(row)
        answer = ANSWERS[word]
        return answer(self.run, numbers)


def read_row(row):
    """Tell the word and the numbers of a row."""
    if not isinstance(row, str):
        raise NoRow("a row is a text")
    word, *rest = row.split(" ")
    if word not in ANSWERS or len(rest) != NUMBER_COUNTS.get(word, 0) or not all([is_number(part) for part in rest]):
        raise NoRow("there is no such row")
    numbers = [int(part) for part in rest]
    if word == "soonest" and numbers[1] > MOST_POURING:
        raise NoRow("so much is not tried with each tick")
    return word, numbers
