"""All that a tale can come to, in order, and in how few turns it can be won from there."""

from toldtale.packing import Packed, is_state, numbers_of, packed_state, status_in, turns_from
from toldtale.playing import GOES_ON, WON

MOST_STATES = 65536
NOT_ANY = -1


class TooManyStates(ValueError):
    pass


# States are known by their places in the order; sources are the places that a turn leads from.
class Reach:
    def __init__(self, tale):
        self.packed = Packed(tale)
        self.states = []
        self.places = {}
        self.sources = []
        self.statuses = []
        self.far = []

    def enter(self, state):
        if len(self.states) == MOST_STATES:
            raise TooManyStates("too many states can be come to")
        self.places[state] = len(self.states)
        self.states.append(state)
        self.sources.append([])


def visit(reach, place):
    state = reach.states[place]
    status = status_in(reach.packed, state)
    reach.statuses.append(status)
    if status != GOES_ON:
        return
    for behind in turns_from(reach.packed, state):
        if behind not in reach.places:
            reach.enter(behind)
        reach.sources[reach.places[behind]].append(place)


# Gone back from all won states at once, so that each state is met first by its shortest way.
def measure(reach):
    far = [0 if status == WON else NOT_ANY for status in reach.statuses]
    met = [place for place, status in enumerate(reach.statuses) if status == WON]
    done = 0
    while done < len(met):
        place = met[done]
        for source in reach.sources[place]:
            if far[source] == NOT_ANY:
                far[source] = far[place] + 1
                met.append(source)
        done += 1
    return far


def reach_of(tale):
    reach = Reach(tale)
    reach.enter(reach.packed.first)
    place = 0
    while place < len(reach.states):
        visit(reach, place)
        place += 1
    reach.far = measure(reach)
    return reach


def place_of(reach, numbers):
    bits = reach.packed.bits
    if not is_state(bits, numbers):
        return None
    return reach.places.get(packed_state(bits, numbers))


def numbers_at(reach, place):
    return numbers_of(reach.packed.bits, reach.states[place])


def nearer_when(reach, place):
    nearer = reach.far[place] - 1
    turns = turns_from(reach.packed, reach.states[place])
    return min([number for behind, number in turns.items() if reach.far[reach.places[behind]] == nearer])


def stuck_places(reach):
    return [place for place, status in enumerate(reach.statuses)
            if status == GOES_ON and reach.far[place] == NOT_ANY]
