"""What holds of the whole: the tales are read and gone through here once more, in another way than the program's."""

import random
import re
import unittest

from tests.helper import CELLAR, LOOK, START, STATE, STATUS, ask, best, gone_through, padded_row, played, say, stuck
from tests.helper import stuck_one

LARGEST = 4294967295

# Of what is left alone on a bank something may be eaten; every turn can be taken back.
RIVER = """
var me = near far;
var goat = near far eaten;
var wolf = near far;
var cabbage = near far eaten;
when "row goat" if me is near and goat is near do me is far and goat is far say "";
when "row goat" if me is far and goat is far do me is near and goat is near say "";
when "row wolf" if me is near and wolf is near do me is far and wolf is far say "";
when "row wolf" if me is far and wolf is far do me is near and wolf is near say "";
when "row cabbage" if me is near and cabbage is near do me is far and cabbage is far say "";
when "row cabbage" if me is far and cabbage is far do me is near and cabbage is near say "";
when "row" if me is near do me is far say "";
when "row" do me is near say "";
won if me is far and goat is far and wolf is far and cabbage is far;
lost if me is far and goat is near and wolf is near;
lost if me is near and goat is far and wolf is far;
lost if me is far and goat is near and cabbage is near;
lost if me is near and goat is far and cabbage is far;
"""

# The bridge can be burnt with no rope at hand: it isn't lost then, but can't be won.
BRIDGE = """
var place = bank island shore hole;
var bridge = whole burnt;
var torch = dark lit;
var rope = coil hand;
when "light torch" if torch is dark do torch is lit say "";
when "cross" if place is bank and bridge is whole do place is island say "";
when "cross" if place is island and bridge is whole do place is bank say "";
when "burn bridge" if torch is lit do bridge is burnt say "";
when "take rope" if place is bank do rope is hand say "";
when "swing" if place is island and rope is hand do place is shore say "";
when "swing" if place is island do place is hole say "";
when "wait" say "";
won if place is shore;
lost if place is hole and torch is dark;
"""

TALES = (CELLAR, RIVER, BRIDGE)


class Model:
    """A tale as a test reads it: strings, conditions and changes by their words."""

    def __init__(self, text):
        self.names, self.choices, self.whens, self.wons, self.losts = [], [], [], [], []
        for sentence in re.findall(r'(?:"[^"]*"|[^";])+;', text):
            words = re.findall(r'"[^"]*"|\w+|=', sentence)
            if words[0] == "var":
                self.names.append(words[1])
                self.choices.append(words[3:])
            elif words[0] == "when":
                self.whens.append((words[1].strip('"'), self.parts(words, "if"), self.parts(words, "do")))
            elif words[0] in ("won", "lost"):
                (self.wons if words[0] == "won" else self.losts).append(self.parts(words, "if"))

    def parts(self, words, opening):
        if opening not in words:
            return []
        place = words.index(opening) + 1
        found = [tuple(words[place:place + 3])]
        while words[place + 3:place + 4] == ["and"]:
            place += 4
            found.append(tuple(words[place:place + 3]))
        return found

    def value(self, state, name):
        var = self.names.index(name)
        return self.choices[var][state[var]]

    def holds(self, condition, state):
        return all((self.value(state, name) == value) == (sign == "is") for name, sign, value in condition)

    def status(self, state):
        if any(self.holds(condition, state) for condition in self.losts):
            return "lost"
        return "won" if any(self.holds(condition, state) for condition in self.wons) else "on"

    def behind(self, state, typed):
        """The when that's done and the state behind it, where typed leads anywhere."""
        if self.status(state) != "on":
            return None
        for number, (string, condition, change) in enumerate(self.whens):
            if string == typed and self.holds(condition, state):
                changed = list(state)
                for name, sign, value in change:
                    var = self.names.index(name)
                    changed[var] = self.choices[var].index(value)
                return number, tuple(changed)
        return None

    def turns(self, state):
        typed = {string for string, condition, change in self.whens}
        return sorted(turn for turn in (self.behind(state, string) for string in typed) if turn)

    def all_states(self):
        """What can be come to in order, each with the words that lead there."""
        ways = {(0,) * len(self.names): []}
        queue = list(ways)
        for state in queue:
            for number, behind in self.turns(state):
                if behind not in ways:
                    ways[behind] = ways[state] + [self.whens[number][0]]
                    queue.append(behind)
        return ways

    def distances(self):
        """How far each state is; those that aren't any far are missing. Sought till nothing gets nearer."""
        turns = {state: self.turns(state) for state in self.all_states()}
        far = {state: 0 for state in turns if self.status(state) == "won"}
        changed = True
        while changed:
            changed = False
            for state in turns:
                ways = [far[behind] + 1 for number, behind in turns[state] if behind in far]
                if ways and min(ways) < far.get(state, len(turns) + 1):
                    far[state] = min(ways)
                    changed = True
        return far


def random_tale(seed):
    chance = random.Random(seed)
    names = [f"v{k}" for k in range(chance.randint(1, 4))]
    choices = {name: [f"x{k}" for k in range(chance.randint(2, 4))] for name in names}

    def condition(most):
        parts = [chance.choice(names) for k in range(chance.randint(1, most))]
        return " and ".join(f"{name} {chance.choice(('is', 'is', 'not'))} {chance.choice(choices[name])}"
                            for name in parts)

    def change():
        parts = chance.sample(names, chance.randint(1, min(2, len(names))))
        return " and ".join(f"{name} is {chance.choice(choices[name])}" for name in parts)

    def is_at(state):
        return " and ".join(f"{name} is {choices[name][number]}" for name, number in zip(names, state))

    rows = [f"var {name} = {' '.join(choices[name])};" for name in names]
    for k in range(chance.randint(2, 24)):
        asked = f" if {condition(3)}" if chance.random() < 0.9 else ""
        changed = f" do {change()}" if chance.random() < 0.9 else ""
        rows.append(f'when "w{chance.randint(0, 15)}"{asked}{changed} say "";')
    # The ends are sought among what turns lead to, so that they're often come to.
    met = list(Model("\n".join(rows)).all_states())
    ends = [f"won if {is_at(met[-1])};"]
    ends += [f"won if {is_at(chance.choice(met))};" for k in range(chance.randint(0, 1))]
    ends += [f"lost if {is_at(chance.choice(met))};" for k in range(chance.randint(0, 3)) if len(met) > 4]
    chance.shuffle(ends)
    return "\n".join(rows + ends)


class HoldsCase(unittest.TestCase):
    def answered(self, text, states):
        """What best answers of each of the states, not more calls at once than there may be."""
        given = {}
        states = list(states)
        for k in range(0, len(states), 250):
            some = states[k:k + 250]
            given.update(zip(some, gone_through(text, *[best(*state) for state in some])))
        return given

    def check_look_and_stuck(self, text, model, far):
        states = list(model.all_states())
        statuses = [model.status(state) for state in states]
        lone = [state for state in states if model.status(state) == "on" and state not in far]
        given = gone_through(text, LOOK, *[stuck(k) for k in range(min(len(lone), 250))], stuck(len(lone)),
                             stuck(LARGEST))
        self.assertEqual(given[0], [0 if lone else 1, len(states), statuses.count("won"), statuses.count("lost"),
                                    len(lone)], text)
        self.assertEqual(given[1:-2], [stuck_one(*state) for state in lone[:250]], text)
        self.assertEqual(given[-2:], [[-2], [-2]], text)

    def check_best(self, text, model, far):
        states = list(model.all_states())
        answers = self.answered(text, states)
        for state in states:
            if far.get(state, -1) < 1:
                self.assertEqual(answers[state], [far.get(state, -1)], text)
                continue
            count, which = answers[state]
            self.assertEqual(count, far[state], text)
            nearer = [number for number, behind in model.turns(state) if far.get(behind) == count - 1]
            self.assertEqual(which, min(nearer), text)

    def check_ways(self, text, model):
        """Typing what best tells, from every state, till it's won."""
        answers = self.answered(text, model.all_states())
        for begin, answer in answers.items():
            state, left = begin, answer[0]
            while left > 0:
                number, behind = model.behind(state, model.whens[answers[state][1]][0])
                self.assertEqual(number, answers[state][1], text)
                self.assertEqual(answers[behind][0], left - 1, text)
                state, left = behind, left - 1
            if answer[0] >= 0:
                self.assertEqual(model.status(state), "won", text)

    def check_never(self, text, model):
        """Whatever's typed, from a state that isn't any far: it's never won."""
        for begin, answer in self.answered(text, model.all_states()).items():
            if answer == [-1]:
                met, queue = {begin}, [begin]
                for state in queue:
                    self.assertNotEqual(model.status(state), "won", text)
                    fresh = {behind for number, behind in model.turns(state)} - met
                    met |= fresh
                    queue.extend(sorted(fresh))

    def check(self, text):
        model = Model(text)
        far = model.distances()
        self.check_look_and_stuck(text, model, far)
        self.check_best(text, model, far)
        self.check_ways(text, model)
        self.check_never(text, model)


class WhatHolds(HoldsCase):
    def test_tales(self):
        for text in TALES:
            self.check(text)

    def test_looks_of_the_tales(self):
        self.assertEqual([gone_through(text, LOOK, best())[0][0] for text in TALES], [1, 1, 0])
        self.assertEqual(gone_through(RIVER, best()), [[7, 0]])
        self.assertEqual(gone_through(BRIDGE, best()), [[3, 4]])

    def test_many_tales(self):
        for seed in range(300):
            self.check(random_tale(seed))

    def test_the_many_tales_are_of_all_sorts(self):
        looks, ways = [], []
        for seed in range(300):
            look, first = gone_through(random_tale(seed), LOOK, best())
            looks.append(look)
            ways.append(first[0])
        self.assertGreater(len([look for look in looks if look[4] > 0 and look[2] > 0]), 30)
        self.assertGreater(len([look for look in looks if look[4] > 0 and look[2] > 0 and look[3] > 0]), 10)
        self.assertGreater(len([look for look in looks if look[0] == 1 and look[1] > 5]), 20)
        self.assertGreater(len([far for far in ways if far > 2]), 30)
        self.assertGreater(max(ways), 5)

    def test_always_a_way_where_none_is_stuck(self):
        safe = 0
        for text in TALES + tuple(random_tale(seed) for seed in range(300)):
            if gone_through(text, LOOK)[0][0] == 1:
                model = Model(text)
                going_on = [state for state in model.all_states() if model.status(state) == "on"]
                for answer in self.answered(text, going_on).values():
                    self.assertGreater(answer[0], 0, text)
                safe += len(going_on) > 0
        self.assertGreater(safe, 20)

    def test_all_that_can_not_be_come_to(self):
        for text in TALES + tuple(random_tale(seed) for seed in range(40)):
            model = Model(text)
            every = [()]
            for choices in model.choices:
                every = [state + (number,) for state in every for number in range(len(choices) + 1)]
            known = model.all_states()
            for state, answer in self.answered(text, every).items():
                self.assertEqual(answer == [-2], state not in known, (text, state))


class PlayedAndGoneThrough(HoldsCase):
    """What best and stuck tell, typed in Part 1."""

    def test_the_words_of_best_lead_to_the_states_that_it_told(self):
        for text in TALES + tuple(random_tale(seed) for seed in range(60)):
            model = Model(text)
            answers = self.answered(text, model.all_states())
            for begin, way in model.all_states().items():
                if answers[begin][0] < 0:
                    continue
                left, state, words = answers[begin][0], begin, []
                states = [begin]
                while left > 0:
                    words.append(model.whens[answers[state][1]][0])
                    state = model.behind(state, words[-1])[1]
                    states.append(state)
                    left -= 1
                calls = [call for word in words for call in (STATUS, say(word), STATE)]
                given = played(text, *[say(word) for word in way], STATE, *calls, STATUS)[len(way):]
                self.assertEqual([one[1:] for one in given[0:-1:3]], [padded_row(one) for one in states], text)
                self.assertEqual([one for one in given[1:-1:3]], [[0]] * answers[begin][0], text)
                self.assertEqual(given[-1], [1], text)

    def test_on_one_object(self):
        """Only what the calls answer is used: where it is, what best tells of that, that typed."""
        for text, turns in ((CELLAR, 5), (RIVER, 7), (BRIDGE, 3)):
            typed = [string for string, condition, change in Model(text).whens]
            row = list(text.encode())
            calls = [[0, len(row)] + row, [10, len(row)] + row, START]
            for left in range(turns, 0, -1):
                where = ask(*calls, STATE)[-1][1:]
                far, which = ask(*calls, best(*where))[-1]
                self.assertEqual(far, left)
                calls += [best(*where), say(typed[which])]
            self.assertEqual(ask(*calls, STATUS)[-1], [1])
            self.assertEqual(ask(*calls, best(*ask(*calls, STATE)[-1][1:]))[-1], [0])

    def test_nothing_typed_wins_from_a_stuck_state(self):
        model = Model(BRIDGE)
        ways = model.all_states()
        typed = sorted({string for string, condition, change in model.whens})
        lines = [say(first) + say(second) + say(third) for first in typed for second in typed for third in typed]
        count = gone_through(BRIDGE, LOOK)[0][4]
        self.assertGreater(count, 3)
        for answer in gone_through(BRIDGE, *[stuck(k) for k in range(count)]):
            way = ways[tuple(answer[1:1 + len(model.names)])]
            begin = sum([say(word) for word in way], START)
            for k in range(0, len(lines), 15):
                given = played(BRIDGE, *[begin + line + STATUS for line in lines[k:k + 15]])
                statuses = given[len(way) + 4::len(way) + 5]
                self.assertEqual(len(statuses), len(lines[k:k + 15]))
                for status in statuses:
                    self.assertIn(status, ([0], [2]))


if __name__ == "__main__":
    unittest.main()
