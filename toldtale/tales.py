"""The calls on a tale that's played and on one that's gone through, answered one behind another."""

from toldtale.playing import GOES_ON, LOST, WON, first_state, first_to_do, shown, state_behind, status_of, whens_typed
from toldtale.reaching import TooManyStates, nearer_when, numbers_at, place_of, reach_of, stuck_places
from toldtale.telling import MOST_VARS, TooLong, tale_of
from toldtale.wording import NoTale, plain_line

READ = 0
START = 1
SAY = 2
STATUS = 3
STATE = 4
READ_AHEAD = 10
BEST = 11
LOOK = 12
STUCK = 13
MOST_LINE = 255
TOO_LONG = -22
NOT_A_TALE = -71
TOO_MANY_STATES = -28
NONE_SUCH = -2
OVER = -1
NOT_KNOWN = 0
NOT_NOW = 1
DONE = 2


class NoCall(ValueError):
    pass


# A tale is kept only when it's read whole, here and in Outlook, so that a refusal leaves all as it was.
class Play:
    def __init__(self):
        self.tale = None
        self.now = []

    def read(self, text):
        try:
            tale = tale_of(text)
        except TooLong:
            return [TOO_LONG]
        except NoTale:
            return [NOT_A_TALE]
        self.tale = tale
        self.now = first_state(tale)
        return [0]

    def begin(self):
        self.now = first_state(self.tale)
        return [0]

    def say(self, line):
        if len(line) > MOST_LINE:
            return [TOO_LONG]
        if status_of(self.tale, self.now) != GOES_ON:
            return [OVER]
        whens = whens_typed(self.tale, plain_line(line))
        if len(whens) == 0:
            return [NOT_KNOWN]
        when = first_to_do(whens, self.now)
        if when is None:
            return [NOT_NOW]
        self.now = state_behind(when.change, self.now)
        return [DONE] + when.told + shown(self.tale, self.now)

    def status(self):
        return [status_of(self.tale, self.now)]

    def state(self):
        return [len(self.now)] + self.now + [0] * (MOST_VARS - len(self.now))


class Outlook:
    def __init__(self):
        self.reach = None
        self.trapped = []

    def read(self, text):
        try:
            reach = reach_of(tale_of(text))
        except TooLong:
            return [TOO_LONG]
        except NoTale:
            return [NOT_A_TALE]
        except TooManyStates:
            return [TOO_MANY_STATES]
        self.reach = reach
        self.trapped = stuck_places(reach)
        return [0]

    # How far is kept as it's answered: -1 where it isn't any, 0 where it's won, and both are told alone.
    def best(self, numbers):
        place = place_of(self.reach, numbers)
        if place is None:
            return [NONE_SUCH]
        far = self.reach.far[place]
        if far <= 0:
            return [far]
        return [far, nearer_when(self.reach, place)]

    def look(self):
        statuses = self.reach.statuses
        safe = 1 if len(self.trapped) == 0 else 0
        return [safe, len(statuses), statuses.count(WON), statuses.count(LOST), len(self.trapped)]

    def stuck(self, which):
        if which >= len(self.trapped):
            return [NONE_SUCH]
        return [0] + numbers_at(self.reach, self.trapped[which])


def answer_of_play(play, call):
    number = call[0]
    if number == READ:
        return play.read(call[2:])
    if number == START:
        return play.begin()
    if number == SAY:
        return play.say(call[2:])
    if number == STATUS:
        return play.status()
    if number == STATE:
        return play.state()
    raise NoCall("there is no call of that number")


def answer_of_outlook(outlook, call):
    number = call[0]
    if number == READ_AHEAD:
        return outlook.read(call[2:])
    if number == BEST:
        return outlook.best(call[2:])
    if number == LOOK:
        return outlook.look()
    if number == STUCK:
        return outlook.stuck(call[1])
    raise NoCall("there is no call of that number")


def end_of_call(calls, place):
    if calls[place] in (READ, SAY, READ_AHEAD, BEST):
        return place + 2 + calls[place + 1]
    if calls[place] == STUCK:
        return place + 2
    return place + 1


def answers(calls):
    play = Play()
    outlook = Outlook()
    given = []
    place = 0
    while place < len(calls):
        end = end_of_call(calls, place)
        call = calls[place:end]
        told = answer_of_play(play, call) if call[0] < READ_AHEAD else answer_of_outlook(outlook, call)
        given.append(len(told))
        given.extend(told)
        place = end
    return given
