"""Calls written as lists of numbers, and their answers taken apart again."""

from toldtale.tales import answers

START = [1]
STATUS = [3]
STATE = [4]
LOOK = [12]


def codes(text):
    return list(text.encode("latin-1")) if isinstance(text, str) else list(text)


def read(text):
    row = codes(text)
    return [0, len(row)] + row


def say(line):
    row = codes(line)
    return [2, len(row)] + row


def read_ahead(text):
    """The read of Part 2."""
    row = codes(text)
    return [10, len(row)] + row


def padded_row(numbers):
    return list(numbers) + [0] * (24 - len(numbers))


def best(*numbers):
    return [11, 24] + padded_row(numbers)


def stuck(k):
    return [13, k]


def apart(given):
    """The answers, a list of numbers each."""
    parts = []
    place = 0
    while place < len(given):
        count = given[place]
        parts.append(given[place + 1:place + 1 + count])
        assert len(parts[-1]) == count, "the last answer is cut off"
        place += 1 + count
    return parts


def ask(*calls):
    """What each of the calls is answered, on one new object."""
    return apart(answers(sum(calls, [])))


def read_answer(text):
    return ask(read(text))[0]


def told(text):
    """The answer of a say that is a turn."""
    return [2] + codes(text)


def state(*numbers):
    """The answer of a state call."""
    return [len(numbers)] + padded_row(numbers)


def stuck_one(*numbers):
    """The answer of a stuck call that tells one."""
    return [0] + padded_row(numbers)


def played(text, *calls):
    """What is answered to calls behind a read that must be taken, and a start."""
    given = ask(read(text), START, *calls)
    assert given[:2] == [[0], [0]], given[:2]
    return given[2:]


def gone_through(text, *calls):
    """What is answered to calls behind a read of Part 2 that must be taken."""
    given = ask(read_ahead(text), *calls)
    assert given[0] == [0], given[0]
    return given[1:]


def tale(names="var a = x y ;", whens='when "go" do a is y say "gone" ;', more="", wons="won if a is y ;"):
    """A tale that is taken, with parts of it exchanged."""
    return "\n".join([names, whens, more, wons])


CELLAR = """
var place = hall cellar garden;
var lamp = off on;
var key = shelf hand;
when "light lamp" if lamp is off do lamp is on say "It burns.";
when "go down" if place is hall and lamp is on do place is cellar say "Down you go.";
when "go down" if place is hall do place is cellar say "You stumble.";
when "go up" if place is cellar do place is hall say "Up again.";
when "take key" if place is cellar and lamp is on do key is hand say "Taken.";
when "go out" if place is hall and key is hand do place is garden say "Out!";
show "You're in the hall." if place is hall;
show "It's dark." if place is cellar and lamp is off;
show "There's a key." if place is cellar and lamp is on and key is shelf;
won if place is garden;
lost if place is cellar and lamp is off;
"""
