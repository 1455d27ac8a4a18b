"""A tale's states and rules as whole numbers, so that a condition is asked in one step.

A state has a bit for each value of each var; the bits of the values that its vars have are set.
A condition is kept as the bits that it bars: it holds in a state that has none of them.
"""

from toldtale.playing import GOES_ON, LOST, WON, first_state
from toldtale.telling import MOST_VARS


class Packed:
    def __init__(self, tale):
        self.bits = bits_of(tale)
        self.first = packed_state(self.bits, first_state(tale))
        self.wons = [barred_by(self.bits, condition) for condition in tale.wons]
        self.losts = [barred_by(self.bits, condition) for condition in tale.losts]
        self.moves = moves_of(self.bits, tale.whens)


def bits_of(tale):
    bits = []
    bit = 1
    for choices in tale.choices:
        row = []
        while len(row) < len(choices):
            row.append(bit)
            bit += bit
        bits.append(row)
    return bits


def every_bit(bits):
    return sum([sum(row) for row in bits])


def packed_state(bits, numbers):
    return sum([row[number] for row, number in zip(bits, numbers)])


# All 24 numbers are asked, since those behind the last var must be 0.
def is_state(bits, numbers):
    for var, number in enumerate(numbers):
        choices = len(bits[var]) if var < len(bits) else 1
        if number >= choices:
            return False
    return True


def numbers_of(bits, state):
    numbers = []
    for row in bits:
        numbers.extend([number for number, bit in enumerate(row) if state & bit])
    return numbers + [0] * (MOST_VARS - len(numbers))


def barred_by(bits, condition):
    barred = 0
    for var, choice, asked in condition:
        bit = bits[var][choice]
        barred |= sum(bits[var]) - bit if asked else bit
    return barred


# All whens of one string have one mark, a bit above those of the states. A when that's done sets
# it, and each of them bars it: so the first that can be done is the only one.
def marks_of(whens, lowest):
    marks = {}
    bit = lowest
    for when in whens:
        typed = tuple(when.typed)
        if typed not in marks:
            marks[typed] = bit
            bit += bit
    return [marks[tuple(when.typed)] for when in whens]


# A move is a when: its number, the bits that it bars, those that it keeps, those that it sets, its mark.
def move_of(bits, when, number, mark):
    kept = every_bit(bits)
    put = 0
    for var, choice in when.change:
        kept -= sum(bits[var])
        put += bits[var][choice]
    return (number, barred_by(bits, when.condition) + mark, kept, put, mark)


def moves_of(bits, whens):
    marks = marks_of(whens, every_bit(bits) + 1)
    return [move_of(bits, when, number, marks[number]) for number, when in enumerate(whens)]


def status_in(packed, state):
    for barred in packed.losts:
        if (state & barred) == 0:
            return LOST
    for barred in packed.wons:
        if (state & barred) == 0:
            return WON
    return GOES_ON


# Each state that a turn leads to, by the whens' numbers, with the least number of a when that leads there.
def turns_from(packed, state):
    turns = {}
    marked = state
    for number, barred, kept, put, mark in packed.moves:
        if (marked & barred) == 0:
            marked |= mark
            turns.setdefault((state & kept) | put, number)
    return turns
