import unittest

from tests.helper import (CELLAR, LOOK, ask, best, codes, gone_through, padded_row, read_ahead, stuck, stuck_one, tale)

TAKEN = [0]
TOO_LONG = [-22]
NO_TALE = [-71]
TOO_MANY = [-28]
NONE_SUCH = [-2]
NOT_ANY = [-1]
WON = [0]
LARGEST = 4294967295

SIXTEEN_VALUES = " ".join(f"x{k}" for k in range(16))

# From s one goes by q or p, and further, where it can't be won any more.
FORKS = """
var a = s p q r w t;
when "q" if a is s do a is q say "";
when "p" if a is s do a is p say "";
when "r" if a is q do a is r say "";
when "t" if a is p do a is t say "";
when "win" if a is s do a is w say "";
won if a is w;
"""


def padded(text, size):
    return text + " " * (size - len(text))


def switches(count, more="", wons=None):
    """A tale of some vars that can be put on, one by one, in any order: each set of them can be come to."""
    names = "".join(f"var v{k}=n y;" for k in range(count))
    whens = "".join(f'when"s{k}"do v{k} is y say"";' for k in range(count))
    return names + "var w=n y;" + whens + more + (wons or "won if " + all_on(min(count, 16)) + ";")


def all_on(count):
    return " and ".join(f"v{k} is y" for k in range(count))


def read_answer(text):
    return ask(read_ahead(text))[0]


class Read(unittest.TestCase):
    def test_taken(self):
        for text in (CELLAR, FORKS, tale(), padded(tale(), 24576)):
            self.assertEqual(read_answer(text), TAKEN)

    def test_too_long(self):
        for size in (24577, 29000):
            self.assertEqual(read_answer(padded(tale(), size)), TOO_LONG)

    def test_no_tale(self):
        for text in ("", " \n", "no tale", tale(names=""), tale(whens=""), tale(wons=""), tale() + "x", tale() + '"',
                     tale(names="var a = x;"), tale(names="var a = x y x;"), tale(names="var is = x y;"),
                     tale(wons="won if b is x;"), tale(wons="won if a is z;"), tale(whens='when "Go" say "";'),
                     tale(whens='when " go" say "";'), tale(whens='when "go" do a is x and a is y say "";'),
                     tale(whens='when "go" do a not x say "";'), tale(more="lost;"), tale() + "var b = x y;",
                     tale(wons="won if a is y;" * 17), tale(whens='when "go" say "";' * 129),
                     tale(more='show "b"'), [0] * 24576, [255], codes(tale()) + [9], codes(tale()) + [0]):
            self.assertEqual(read_answer(text), NO_TALE, text)

    def test_too_long_is_told_ahead_of_no_tale(self):
        self.assertEqual(read_answer([0] * 24577), TOO_LONG)

    def test_too_long_is_told_ahead_of_too_many_states(self):
        self.assertEqual(read_answer(padded(switches(17), 24577)), TOO_LONG)
        self.assertEqual(read_answer(padded(switches(17), 24576)), TOO_MANY)

    def test_no_tale_is_told_ahead_of_too_many_states(self):
        self.assertEqual(read_answer(switches(17) + "x"), NO_TALE)
        self.assertEqual(read_answer(switches(17, wons=" ")), NO_TALE)


class HowManyStates(unittest.TestCase):
    def test_just_65536(self):
        given = gone_through(switches(16), LOOK, best(), best(*[1] * 16), best(*[1] * 15), best(*[1] * 16, 1),
                             best(0, *[1] * 15), best(*[0, 1] * 8), stuck(0))
        self.assertEqual(given, [[1, 65536, 1, 0, 0], [16, 0], WON, [1, 15], NONE_SUCH, [1, 0], [8, 0], NONE_SUCH])

    def test_just_65536_that_are_stuck(self):
        given = gone_through(switches(16, wons="won if w is y;"), LOOK, stuck(65535), stuck(65536), stuck(1), stuck(16),
                             stuck(17))
        self.assertEqual(given, [[0, 65536, 0, 0, 65536], stuck_one(*[1] * 16), NONE_SUCH, stuck_one(1),
                                 stuck_one(*[0] * 15, 1), stuck_one(1, 1)])

    def test_one_more(self):
        one_more = f'when"on"if {all_on(16)} do w is y say"";'
        for ends in ("won if w is y;", "won if v0 is n and w is y; lost if w is y;"):
            self.assertEqual(read_answer(switches(16, more=one_more, wons=ends)), TOO_MANY)
        self.assertEqual(read_answer(switches(16, more=one_more)), TAKEN)

    def test_many_more(self):
        self.assertEqual(read_answer(switches(17)), TOO_MANY)
        names = "".join(f"var v{k}={SIXTEEN_VALUES};" for k in range(24))
        whens = "".join(f'when"s{var} {k}"do v{var} is x{k} say"";' for var in range(8) for k in range(16))
        self.assertEqual(read_answer(names + whens + "won if v23 is x1;"), TOO_MANY)

    def test_what_lies_behind_an_end_is_not_come_to(self):
        ends = "won if v0 is y; won if v1 is y; lost if v2 is y;"
        given = gone_through(switches(17, wons=ends), LOOK, best(), best(1), best(0, 0, 1), best(1, 1), best(0, 1, 1))
        self.assertEqual(given, [[1, 65536, 32768, 16384, 0], [1, 0], WON, NOT_ANY, NONE_SUCH, NONE_SUCH])

    def test_only_what_can_be_come_to_is_counted(self):
        names = "".join(f"var v{k}={SIXTEEN_VALUES};" for k in range(24))
        text = names + 'when"a"do v0 is x15 say"";when"b"do v23 is x15 say"";won if v0 is x15 and v23 is x15;'
        given = gone_through(text, LOOK, best(), best(15), best(*[0] * 23, 15), best(15, *[0] * 22, 15), best(14),
                             best(*[15] * 24))
        self.assertEqual(given, [[1, 4, 1, 0, 0], [2, 0], [1, 1], [1, 0], WON, NONE_SUCH, NONE_SUCH])


class RefusedReads(unittest.TestCase):
    REFUSALS = (([0] * 24577, TOO_LONG), ("", NO_TALE), (CELLAR + "x", NO_TALE), (switches(17), TOO_MANY))
    CALLS = (LOOK, best(), best(1), best(3), best(4), best(6), stuck(0), stuck(3), stuck(4))
    ANSWERS = [[0, 6, 1, 0, 4], [1, 4], NOT_ANY, NOT_ANY, WON, NONE_SUCH, stuck_one(2), stuck_one(5), NONE_SUCH]

    def test_all_stays_as_it_was(self):
        self.assertEqual(gone_through(FORKS, *self.CALLS), self.ANSWERS)
        for text, refusal in self.REFUSALS:
            given = gone_through(FORKS, read_ahead(text), *self.CALLS)
            self.assertEqual(given, [refusal] + self.ANSWERS)

    def test_several_behind_one_another(self):
        calls = [read_ahead(text) for text, refusal in self.REFUSALS if len(text) < 20000]
        given = gone_through(FORKS, *calls, *self.CALLS)
        self.assertEqual(given[len(calls):], self.ANSWERS)

    def test_ahead_of_the_first_that_is_taken(self):
        for text, refusal in self.REFUSALS:
            given = ask(read_ahead(text), read_ahead(FORKS), *self.CALLS)
            self.assertEqual(given, [refusal, TAKEN] + self.ANSWERS)

    def test_a_read_that_is_taken_is_the_one_answered_of(self):
        given = gone_through(FORKS, LOOK, read_ahead(CELLAR), LOOK, best(4), best(0, 1), stuck(0), read_ahead(FORKS),
                             *self.CALLS)
        self.assertEqual(given, [[0, 6, 1, 0, 4], TAKEN, [1, 7, 1, 1, 0], NONE_SUCH, [4, 1], NONE_SUCH, TAKEN]
                         + self.ANSWERS)


class Best(unittest.TestCase):
    def test_every_state_of_a_tale(self):
        given = gone_through(CELLAR, best(0, 0, 0), best(0, 1, 0), best(1, 1, 0), best(1, 1, 1), best(0, 1, 1),
                             best(2, 1, 1), best(1, 0, 0))
        self.assertEqual(given, [[5, 0], [4, 1], [3, 4], [2, 3], [1, 5], WON, NOT_ANY])

    def test_values_that_no_turn_leads_to(self):
        given = gone_through(CELLAR, best(0, 0, 1), best(1, 0, 1), best(2, 0, 0), best(2, 1, 0), best(2, 0, 1))
        self.assertEqual(given, [NONE_SUCH] * 5)

    def test_a_number_that_is_none_of_its_vars_values(self):
        for var, choices in enumerate((3, 2, 2)):
            for number in (choices, choices + 1, 16, 255):
                numbers = [0, 1, 0]
                numbers[var] = number
                self.assertEqual(gone_through(CELLAR, best(*numbers)), [NONE_SUCH], numbers)
        given = gone_through(CELLAR, best(*[255] * 24), best(*[0] * 23, 255))
        self.assertEqual(given, [NONE_SUCH] * 2)

    def test_a_number_behind_the_last_var(self):
        for place in range(3, 24):
            for number in (1, 255):
                numbers = padded_row([0, 1, 0])
                self.assertEqual(gone_through(CELLAR, best(*numbers)), [[4, 1]])
                numbers[place] = number
                self.assertEqual(gone_through(CELLAR, best(*numbers)), [NONE_SUCH], numbers)

    def test_24_vars(self):
        names = "".join(f"var v{k} = n y;" for k in range(24))
        text = names + 'when "a" do v23 is y say ""; when "b" if v23 is y do v22 is y say ""; won if v22 is y;'
        given = gone_through(text, best(), best(*[0] * 23, 1), best(*[0] * 22, 1, 1), best(*[0] * 22, 1))
        self.assertEqual(given, [[2, 0], [1, 1], WON, NONE_SUCH])

    def test_lost_and_stuck(self):
        text = ('var a = x y z v; when "go" if a is x do a is y say ""; when "lose" if a is x do a is z say "";'
                'when "wait" do a is v say ""; won if a is y; lost if a is z;')
        self.assertEqual(gone_through(text, best(0), best(1), best(2), best(3)), [[1, 0], WON, NOT_ANY, NOT_ANY])

    def test_lost_and_won_at_once_is_lost(self):
        text = tale(names="var a = x y; var b = x y;", more="lost if b is x;", wons="won if a is x;")
        self.assertEqual(gone_through(text, LOOK, best()), [[1, 1, 0, 1, 0], NOT_ANY])
        text = tale(names="var a = x y;", more="lost if a is y;")
        self.assertEqual(gone_through(text, LOOK, best(), best(1)), [[0, 2, 0, 1, 1], NOT_ANY, NOT_ANY])

    def test_the_least_number_of_several_that_lead_nearer(self):
        text = ('var a = s p q w; when "stay" say ""; when "p" if a is s do a is p say "";'
                'when "q" if a is s do a is q say ""; when "p too" if a is s do a is p say "";'
                'when "win" if a not s and a not p do a is w say ""; when "win too" if a not s do a is w say "";'
                "won if a is w;")
        self.assertEqual(gone_through(text, best(0), best(1), best(2)), [[2, 1], [1, 5], [1, 4]])

    def test_a_lower_number_that_does_not_lead_nearer_is_passed_over(self):
        text = ('var a = s p q r w; when "far" if a is s do a is p say ""; when "back" if a not s do a is s say "";'
                'when "farther" if a is p do a is q say ""; when "on" if a is q do a is r say "";'
                'when "near" if a is s do a is r say ""; when "win" if a is r do a is w say ""; won if a is w;')
        self.assertEqual(gone_through(text, best(0), best(1), best(2), best(3)), [[2, 4], [3, 1], [2, 3], [1, 5]])

    def test_not_in_a_condition(self):
        text = ('var a = s p q w; when "no" if a not s and a not p do a is w say ""; when "p" if a not q do a is q say "";'
                "won if a not s and a not p and a not q;")
        self.assertEqual(gone_through(text, best(0), best(2), best(3), best(1)), [[2, 1], [1, 0], WON, NONE_SUCH])

    def test_a_condition_that_never_holds(self):
        for condition in ("a is x and a not x", "a is x and a is y", "a not x and a not y"):
            text = tale(more=f'when "go" if {condition} do b is q say "";', names="var a = x y; var b = p q;",
                        whens='when "turn" do a is y say "";', wons="won if b is q;")
            self.assertEqual(gone_through(text, LOOK), [[0, 2, 0, 0, 2]])

    def test_a_change_of_several_vars_at_once(self):
        text = ('var a = x y; var b = p q; var c = m n; when "go" do a is y and c is n say "";'
                'when "win" if a is y and b is p and c is n do b is q and a is x and c is m say "";'
                "won if a is x and b is q and c is m;")
        given = gone_through(text, best(), best(1, 0, 1), best(0, 1, 0), best(1), best(0, 0, 1))
        self.assertEqual(given, [[2, 0], [1, 1], WON, NONE_SUCH, NONE_SUCH])

    def test_the_last_of_128_whens(self):
        text = tale(whens="".join(f'when "s{k}" say "";' for k in range(127)) + 'when "go" do a is y say "";')
        self.assertEqual(gone_through(text, best(), best(1)), [[1, 127], WON])

    def test_some_won_and_some_lost_is_enough(self):
        names = f"var a = {SIXTEEN_VALUES};"
        whens = "".join(f'when "s{k}" do a is x{k} say "";' for k in range(1, 16))
        for end, given in (("won", WON), ("lost", NOT_ANY)):
            ends = "".join(f"{end} if a is x{k};" for k in range(1, 16)) + f"{end} if a is x0 and a is x1;"
            text = names + whens + ends + "won if a is x0 and a is x1;" * (end == "lost")
            self.assertEqual(gone_through(text, *[best(k) for k in range(1, 16)]), [given] * 15)

    def test_far_away(self):
        for turns in (1, 2, 15):
            whens = "".join(f'when "go" if a is x{k} do a is x{k + 1} say "";' for k in range(turns))
            text = f"var a = {SIXTEEN_VALUES};{whens}won if a is x{turns};"
            given = gone_through(text, *[best(k) for k in range(turns + 1)])
            self.assertEqual(given, [[turns - k, k] for k in range(turns)] + [WON])


class Look(unittest.TestCase):
    def look(self, text):
        return gone_through(text, LOOK)[0]

    def test_none_stuck(self):
        self.assertEqual(self.look(CELLAR), [1, 7, 1, 1, 0])
        self.assertEqual(self.look(tale()), [1, 2, 1, 0, 0])

    def test_some_stuck(self):
        self.assertEqual(self.look(FORKS), [0, 6, 1, 0, 4])

    def test_all_four_counts_differ(self):
        names = f"var a = {SIXTEEN_VALUES};"
        whens = "".join(f'when "s{k}" if a is x0 do a is x{k} say "";' for k in range(1, 10))
        ends = "won if a is x1; lost if a is x2; lost if a is x3; lost if a is x4;"
        self.assertEqual(self.look(names + whens + ends), [0, 10, 1, 3, 5])
        self.assertEqual(self.look(names + whens + ends + "won if a is x5; won if a is x4;"), [0, 10, 2, 3, 4])

    def test_won_at_first(self):
        self.assertEqual(self.look(tale(wons="won if a is x;")), [1, 1, 1, 0, 0])

    def test_lost_at_first(self):
        self.assertEqual(self.look(tale(more="lost if a is x;")), [1, 1, 0, 1, 0])

    def test_that_can_not_be_won(self):
        self.assertEqual(self.look(tale(whens='when "go" if a is y say "";')), [0, 1, 0, 0, 1])
        self.assertEqual(self.look(tale(names="var a = x y z;", wons="won if a is z;")), [0, 2, 0, 0, 2])
        self.assertEqual(self.look(tale(names="var a = x y z;", more="lost if a is y;", wons="won if a is z;")),
                         [0, 2, 0, 1, 1])

    def test_changes_nothing(self):
        self.assertEqual(gone_through(FORKS, LOOK, best(), LOOK, stuck(1), LOOK, best(9), LOOK, stuck(9), LOOK)[::2],
                         [[0, 6, 1, 0, 4]] * 5)


class Stuck(unittest.TestCase):
    def all_stuck(self, text, count):
        """The first count, behind which there must be none."""
        given = gone_through(text, *[stuck(k) for k in range(count)], stuck(count), stuck(LARGEST))
        self.assertEqual(given[count:], [NONE_SUCH] * 2)
        return given[:count]

    def test_none(self):
        self.assertEqual(self.all_stuck(CELLAR, 0), [])
        self.assertEqual(self.all_stuck(tale(wons="won if a is x;"), 0), [])
        self.assertEqual(self.all_stuck(tale(more="lost if a is x;"), 0), [])

    def test_the_first_state(self):
        self.assertEqual(self.all_stuck(tale(whens='when "go" say "";'), 1), [stuck_one()])

    def test_no_more_than_k(self):
        given = gone_through(FORKS, stuck(3), stuck(4), stuck(5), stuck(65536), stuck(LARGEST - 1), stuck(LARGEST))
        self.assertEqual(given, [stuck_one(5)] + [NONE_SUCH] * 5)

    def test_in_order_of_what_can_be_come_to(self):
        self.assertEqual(self.all_stuck(FORKS, 4), [stuck_one(2), stuck_one(1), stuck_one(3), stuck_one(5)])

    def test_in_any_order_asked(self):
        given = gone_through(FORKS, stuck(3), stuck(0), stuck(4), stuck(0), stuck(2))
        self.assertEqual(given, [stuck_one(5), stuck_one(2), NONE_SUCH, stuck_one(2), stuck_one(3)])

    def test_turns_come_by_the_when_that_is_done(self):
        text = ('var a = s p q r w; when "b" if a is r do a is w say ""; when "c" if a is s do a is q say "";'
                'when "b" if a is s do a is p say ""; won if a is r;')
        self.assertEqual(self.all_stuck(text, 3), [stuck_one(0), stuck_one(2), stuck_one(1)])

    def test_met_again_keeps_its_first_place(self):
        text = ('var a = s p q r t; when "a" if a is s do a is r say ""; when "b" if a is r do a is p say "";'
                'when "c" if a is s do a is p say ""; when "d" if a is r do a is q say "";'
                'when "e" if a is p do a is q say ""; when "f" if a is q do a is s say ""; won if a is t;')
        self.assertEqual(self.all_stuck(text, 4), [stuck_one(0), stuck_one(3), stuck_one(1), stuck_one(2)])

    def test_neither_lost_nor_won_ones(self):
        text = ('var a = s p q r; var b = m n; when "a" if a is s do a is r say ""; when "b" if a is s do a is q say "";'
                'when "c" if a is s do a is p and b is n say ""; lost if a is r; won if a is q;')
        self.assertEqual(self.all_stuck(text, 1), [stuck_one(1, 1)])

    def test_24_vars(self):
        names = "".join(f"var v{k} = {SIXTEEN_VALUES};" for k in range(24))
        change = [[(k * 7 + 15) % 16 for k in range(24)][half:half + 12] for half in (0, 12)]
        halves = [" and ".join(f"v{12 * half + k} is x{number}" for k, number in enumerate(change[half]))
                  for half in (0, 1)]
        text = names + "".join(f'when "{half}" do {halves[half]} say "";' for half in (0, 1)) + "won if v0 is x1;"
        self.assertEqual(self.all_stuck(text, 4), [stuck_one(), stuck_one(*change[0]), stuck_one(*[0] * 12, *change[1]),
                                                   stuck_one(*change[0], *change[1])])


class Corners(unittest.TestCase):
    def test_won_at_first(self):
        given = gone_through(tale(wons="won if a is x;"), LOOK, best(), best(1), stuck(0))
        self.assertEqual(given, [[1, 1, 1, 0, 0], WON, NONE_SUCH, NONE_SUCH])

    def test_that_can_not_be_won(self):
        given = gone_through(tale(names="var a = x y z;", wons="won if a is z;"), LOOK, best(), best(1), best(2),
                             stuck(0), stuck(1), stuck(2))
        self.assertEqual(given, [[0, 2, 0, 0, 2], NOT_ANY, NOT_ANY, NONE_SUCH, stuck_one(0), stuck_one(1), NONE_SUCH])

    def test_turns_that_lead_back(self):
        text = ('var a = x y z w; when "go" if a is x do a is y say ""; when "back" if a is y do a is x say "";'
                'when "trap" if a is y do a is z say ""; when "stay" if a is z do a is z say "";'
                'when "win" if a is y do a is w say ""; won if a is w;')
        given = gone_through(text, LOOK, best(0), best(1), best(2), best(3), stuck(0), stuck(1))
        self.assertEqual(given, [[0, 4, 1, 0, 1], [2, 0], [1, 4], NOT_ANY, WON, stuck_one(2), NONE_SUCH])

    def test_a_ring_without_a_way_out(self):
        text = ('var a = x y z w; when "go" if a is x do a is y say ""; when "go" if a is y do a is z say "";'
                'when "go" if a is z do a is x say ""; won if a is w;')
        given = gone_through(text, LOOK, best(0), best(1), best(2), best(3), stuck(0), stuck(1), stuck(2), stuck(3))
        self.assertEqual(given, [[0, 3, 0, 0, 3], NOT_ANY, NOT_ANY, NOT_ANY, NONE_SUCH, stuck_one(0), stuck_one(1),
                                 stuck_one(2), NONE_SUCH])

    def test_a_turn_that_changes_nothing(self):
        text = tale(whens='when "look" say "b"; when "stay" do a is x say "b"; when "go" do a is y say "";')
        self.assertEqual(gone_through(text, LOOK, best(), best(1)), [[1, 2, 1, 0, 0], [1, 2], WON])

    def test_two_whens_of_one_string(self):
        text = ('var a = x y z w; when "go" if a is x do a is y say ""; when "go" if a not w do a is w say "";'
                'when "go" do a is z say ""; won if a is w;')
        given = gone_through(text, LOOK, best(0), best(1), best(2), best(3))
        self.assertEqual(given, [[1, 3, 1, 0, 0], [2, 0], [1, 1], NONE_SUCH, WON])

    def test_the_later_when_of_one_string_leads_nowhere(self):
        text = tale(names="var a = x y z;", whens='when "go" do a is z say ""; when "go" do a is y say "";')
        self.assertEqual(gone_through(text, LOOK, best(), best(1), best(2), stuck(0), stuck(1)),
                         [[0, 2, 0, 0, 2], NOT_ANY, NONE_SUCH, NOT_ANY, stuck_one(0), stuck_one(2)])

    def test_a_when_that_changes_nothing_ahead_of_one_of_its_string(self):
        text = tale(whens='when "go" if a is x say ""; when "go" do a is y say "";')
        self.assertEqual(gone_through(text, LOOK, best(), best(1)), [[0, 1, 0, 0, 1], NOT_ANY, NONE_SUCH])

    def test_other_strings_between_two_of_one(self):
        text = ('var a = x y z; var b = m n; when "go" if b is m do b is n say ""; when "on" do a is z say "";'
                'when "go" if a is x do a is y say ""; when "o n" if b is m and a is x do a is y say ""; won if a is y;')
        given = gone_through(text, LOOK, best(), best(0, 1), best(1, 0), best(1, 1), stuck(0), stuck(1), stuck(2))
        self.assertEqual(given, [[0, 6, 2, 0, 2], [1, 3], [1, 2], WON, WON, stuck_one(2, 0), stuck_one(2, 1),
                                 NONE_SUCH])

    def test_a_way_through_a_won_state_goes_no_further(self):
        text = ('var a = x y z; when "go" if a is x do a is y say ""; when "go" if a is y do a is z say "";'
                "won if a is y; won if a is z;")
        self.assertEqual(gone_through(text, LOOK, best(0), best(1), best(2)), [[1, 2, 1, 0, 0], [1, 0], WON, NONE_SUCH])

    def test_a_way_through_a_lost_state_goes_no_further(self):
        text = ('var a = x y z; when "go" if a is x do a is y say ""; when "go" if a is y do a is z say "";'
                "lost if a is y; won if a is z;")
        given = gone_through(text, LOOK, best(0), best(1), best(2), stuck(0), stuck(1))
        self.assertEqual(given, [[0, 2, 0, 1, 1], NOT_ANY, NOT_ANY, NONE_SUCH, stuck_one(0), NONE_SUCH])

    def test_a_shorter_way_behind_a_won_state_is_none(self):
        text = ('var a = x y z; var b = m n; when "a" if a is x do a is y say ""; when "b" if a is y do b is n say "";'
                'when "c" if a is x do a is z say ""; when "d" if a is z do b is n say ""; won if a is y; won if b is n;')
        given = gone_through(text, LOOK, best(), best(1, 1), best(2), best(2, 1))
        self.assertEqual(given, [[1, 4, 2, 0, 0], [1, 0], NONE_SUCH, [1, 3], WON])


if __name__ == "__main__":
    unittest.main()
