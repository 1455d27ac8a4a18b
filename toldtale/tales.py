"""The calls on a tale that's read and played, answered one behind another."""

from toldtale.playing import GOES_ON, first_state, first_to_do, shown, state_behind, status_of, whens_typed
from toldtale.telling import MOST_VARS, tale_of
from toldtale.wording import NoTale, plain_line

READ = 0
START = 1
SAY = 2
STATUS = 3
STATE = 4
MOST_TEXT = 24576
MOST_LINE = 255
TOO_LONG = -22
NOT_A_TALE = -71
OVER = -1
NOT_KNOWN = 0
NOT_NOW = 1
DONE = 2


class NoCall(ValueError):
    pass


class Play:
    def __init__(self):
        self.tale = None
        self.now = []

    # The tale is kept only when it's read whole, so that a refusal leaves all as it was.
    def read(self, text):
        if len(text) > MOST_TEXT:
            return [TOO_LONG]
        try:
            tale = tale_of(text)
        except NoTale:
            return [NOT_A_TALE]
        self.tale = tale
        self.now = first_state(tale)
        return [0]

    def begin(self):
        self.now = first_state(self.tale)
        return [0]

    def say(self, line):
        if len(line) > MOST_LINE:
            return [TOO_LONG]
        if status_of(self.tale, self.now) != GOES_ON:
            return [OVER]
        whens = whens_typed(self.tale, plain_line(line))
        if len(whens) == 0:
            return [NOT_KNOWN]
        when = first_to_do(whens, self.now)
        if when is None:
            return [NOT_NOW]
        self.now = state_behind(when.change, self.now)
        return [DONE] + when.told + shown(self.tale, self.now)

    def status(self):
        return [status_of(self.tale, self.now)]

    def state(self):
        return [len(self.now)] + self.now + [0] * (MOST_VARS - len(self.now))


def answer(play, number, row):
    if number == READ:
        return play.read(row)
    if number == START:
        return play.begin()
    if number == SAY:
        return play.say(row)
    if number == STATUS:
        return play.status()
    if number == STATE:
        return play.state()
    raise NoCall("there is no call of that number")


def answers(calls):
    play = Play()
    given = []
    place = 0
    while place < len(calls):
        number = calls[place]
        place += 1
        row = []
        if number == READ or number == SAY:
            row = calls[place + 1:place + 1 + calls[place]]
            place += 1 + len(row)
        told = answer(play, number, row)
        given.append(len(told))
        given.extend(told)
    return given
