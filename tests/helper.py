"""Calls written as lists of numbers, and their answers taken apart again."""

from toldtale.tales import answers

START = [1]
STATUS = [3]
STATE = [4]


def codes(text):
    return list(text.encode("latin-1")) if isinstance(text, str) else list(text)


def read(text):
    row = codes(text)
    return [0, len(row)] + row


def say(line):
    row = codes(line)
    return [2, len(row)] + row


def apart(given):
    """The answers, a list of numbers each."""
    parts = []
    place = 0
    while place < len(given):
        count = given[place]
        parts.append(given[place + 1:place + 1 + count])
        assert len(parts[-1]) == count, "the last answer is cut off"
        place += 1 + count
    return parts


def ask(*calls):
    """What each of the calls is answered, on one new object."""
    return apart(answers(sum(calls, [])))


def read_answer(text):
    return ask(read(text))[0]


def told(text):
    """The answer of a say that is a turn."""
    return [2] + codes(text)


def state(*numbers):
    """The answer of a state call."""
    return [len(numbers)] + list(numbers) + [0] * (24 - len(numbers))


def played(text, *calls):
    """What is answered to calls behind a read that must be taken, and a start."""
    given = ask(read(text), START, *calls)
    assert given[:2] == [[0], [0]], given[:2]
    return given[2:]


def tale(names="var a = x y ;", whens='when "go" do a is y say "gone" ;', more="", wons="won if a is y ;"):
    """A tale that is taken, with parts of it exchanged."""
    return "\n".join([names, whens, more, wons])
