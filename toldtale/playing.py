"""What holds in a state of a tale, and what a turn makes of it."""

from toldtale.wording import LINE_FEED

GOES_ON = 0
WON = 1
LOST = 2


def first_state(tale):
    return [0] * len(tale.choices)


def holds(condition, state):
    for var, choice, asked in condition:
        if (state[var] == choice) != asked:
            return False
    return True


def some_holds(conditions, state):
    return any([holds(condition, state) for condition in conditions])


# Lost is asked first: where both hold it's lost.
def status_of(tale, state):
    if some_holds(tale.losts, state):
        return LOST
    if some_holds(tale.wons, state):
        return WON
    return GOES_ON


def whens_typed(tale, typed):
    return [when for when in tale.whens if when.typed == typed]


def first_to_do(whens, state):
    for when in whens:
        if holds(when.condition, state):
            return when
    return None


def state_behind(change, state):
    behind = list(state)
    for var, choice in change:
        behind[var] = choice
    return behind


def shown(tale, state):
    told = []
    for show in tale.shows:
        if holds(show.condition, state):
            told.append(LINE_FEED)
            told.extend(show.told)
    return told
