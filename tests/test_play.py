import unittest

from tests.helper import CELLAR, START, STATE, STATUS, ask, codes, played, read, read_answer, say, state, tale, told

GOES_ON = [0]
WON = [1]
LOST = [2]
NOT_KNOWN = [0]
NOT_NOW = [1]
OVER = [-1]
TOO_LONG = [-22]


class Whole(unittest.TestCase):
    def test_a_tale_is_won(self):
        given = played(CELLAR, say("light lamp"), STATUS, say("go down"), STATE, say("take key"), say("go up"),
                       STATUS, say("go out"), STATUS, STATE)
        self.assertEqual(given, [
            told("It burns.\nYou're in the hall."), GOES_ON,
            told("Down you go.\nThere's a key."), state(1, 1, 0),
            told("Taken."), told("Up again.\nYou're in the hall."), GOES_ON,
            told("Out!"), WON, state(2, 1, 1)])

    def test_a_tale_is_lost(self):
        given = played(CELLAR, say("go down"), STATUS, STATE, say("go up"), STATUS, STATE)
        self.assertEqual(given, [told("You stumble.\nIt's dark."), LOST, state(1, 0, 0), OVER, LOST, state(1, 0, 0)])


class Start(unittest.TestCase):
    def test_in_the_middle_of_a_play(self):
        given = played(CELLAR, say("light lamp"), say("go down"), START, STATE, STATUS, say("go down"))
        self.assertEqual(given[2:], [[0], state(0, 0, 0), GOES_ON, told("You stumble.\nIt's dark.")])

    def test_behind_the_end(self):
        given = played(CELLAR, say("go down"), STATUS, START, STATUS, say("light lamp"))
        self.assertEqual(given[1:], [LOST, [0], GOES_ON, told("It burns.\nYou're in the hall.")])

    def test_again_and_again(self):
        self.assertEqual(played(CELLAR, START, START, STATE), [[0], [0], state(0, 0, 0)])

    def test_behind_another_read(self):
        other = 'var b = p q; var c = p q; when "go" do c is q say "c"; won if b is q;'
        given = played(CELLAR, say("light lamp"), read(other), START, STATE, say("light lamp"), say("go"), STATE)
        self.assertEqual(given[1:], [[0], [0], state(0, 0), NOT_KNOWN, told("c"), state(0, 1)])

    def test_behind_the_same_read_again(self):
        given = played(CELLAR, say("light lamp"), read(CELLAR), START, STATE)
        self.assertEqual(given[1:], [[0], [0], state(0, 0, 0)])

    def test_a_turn_does_not_touch_what_is_at_first(self):
        given = played(tale(wons="won if a is y and a is x;"), say("go"), STATE, START, STATE, say("go"), STATE)
        self.assertEqual(given, [told("gone"), state(1), [0], state(0), told("gone"), state(1)])


class LineLength(unittest.TestCase):
    def test_255_and_not_256(self):
        given = played(tale(), say(" " * 256), say("go" + " " * 254), STATE, say("go" + " " * 253), STATE)
        self.assertEqual(given, [TOO_LONG, TOO_LONG, state(0), told("gone"), state(1)])

    def test_255_that_is_no_whens(self):
        self.assertEqual(played(tale(), say("x" * 255), say("x" * 256), say("x" * 400)),
                         [NOT_KNOWN, TOO_LONG, TOO_LONG])

    def test_too_long_comes_ahead_of_over(self):
        given = played(tale(), say("go"), say("x" * 256), say("x" * 255), say("go"), STATE)
        self.assertEqual(given[1:], [TOO_LONG, OVER, OVER, state(1)])


class LinesMadePlain(unittest.TestCase):
    TALE = ("var a = x y;"
            'when "open door 2" say "b"; when "opendoor" say "c"; when "abcdefghijklmnopqrstuvwxyz" say "d";'
            "won if a is y;")

    def answers_of(self, *lines):
        return played(self.TALE, *[say(line) for line in lines])

    def test_blanks_left_out(self):
        lines = ("open door 2", " open door 2", "open door 2 ", "   open door 2    ", "open  door     2",
                 "  open   door  2  ")
        self.assertEqual(self.answers_of(*lines), [told("b")] * len(lines))

    def test_big_letters(self):
        lines = ("OPEN DOOR 2", "Open Door 2", "  oPEN   dOOR 2 ")
        self.assertEqual(self.answers_of(*lines), [told("b")] * len(lines))
        self.assertEqual(self.answers_of("ABCDEFGHIJKLMNOPQRSTUVWXYZ"), [told("d")])

    def test_blanks_between_matter(self):
        self.assertEqual(self.answers_of("opendoor", "open door", "opendoor 2", "open do or 2", "o pendoor"),
                         [told("c")] + [NOT_KNOWN] * 4)

    def test_a_part_or_more_is_not_the_line(self):
        self.assertEqual(self.answers_of("open door", "open door 2 2", "open door 22", "pen door 2", "2"),
                         [NOT_KNOWN] * 5)

    def test_other_bytes_are_no_blanks(self):
        lines = [codes("open") + [code] + codes("door 2") for code in range(256)]
        for code, line in enumerate(lines):
            self.assertEqual(self.answers_of(line), [told("b") if code == 32 else NOT_KNOWN], code)
        for code in range(256):
            for line in ([code] + codes("opendoor"), codes("opendoor") + [code]):
                self.assertEqual(self.answers_of(line), [told("c") if code == 32 else NOT_KNOWN], code)

    def test_only_big_letters_are_taken_as_small_ones(self):
        for code in range(256):
            fits = code in codes("oO")
            self.assertEqual(self.answers_of([code] + codes("pendoor")), [told("c") if fits else NOT_KNOWN], code)
            fits = code in codes("2")
            self.assertEqual(self.answers_of(codes("open door ") + [code]), [told("b") if fits else NOT_KNOWN], code)

    def test_a_line_of_blanks_and_one_of_nothing(self):
        self.assertEqual(self.answers_of("", " ", " " * 255), [NOT_KNOWN] * 3)

    def test_the_longest_that_is_typed(self):
        for typed in ("a" * 40, "a " * 19 + "bc"):
            given = played(tale(whens=f'when "{typed}" say "b";'), say("  " + typed.upper()), say(typed[:-1]))
            self.assertEqual(given, [told("b"), NOT_KNOWN])


class Refused(unittest.TestCase):
    TALE = ('var a = x y; var b = p q r; when "a" if b is q do a is y say "n"; when "b" do b is r say "b";'
            'when "c" if b is p and a is y do b is q say "n"; when "c" if a not x do b is q say "n"; won if b is r;')

    def test_no_when_has_that_line(self):
        self.assertEqual(played(self.TALE, say("d"), STATE, STATUS), [NOT_KNOWN, state(0, 0), GOES_ON])

    def test_none_can_be_done(self):
        given = played(self.TALE, say("a"), STATE, say("c"), STATE, STATUS)
        self.assertEqual(given, [NOT_NOW, state(0, 0), NOT_NOW, state(0, 0), GOES_ON])

    def test_over(self):
        given = played(self.TALE, say("b"), STATUS, say("b"), say("a"), say("d"), say(""), STATE, STATUS)
        self.assertEqual(given, [told("b"), WON, OVER, OVER, OVER, OVER, state(0, 2), WON])

    def test_a_play_goes_on_behind_them(self):
        given = played(self.TALE, say("d"), say("a"), say("x" * 256), say("b"), STATE)
        self.assertEqual(given, [NOT_KNOWN, NOT_NOW, TOO_LONG, told("b"), state(0, 2)])


class Turns(unittest.TestCase):
    def test_the_first_when_that_holds(self):
        text = ('var a = x y z; when "go" if a is y do a is z say "1"; when "no" do a is z say "no";'
                'when "go" if a is x do a is y say "2"; when "go" do a is x say "3"; won if a is z and a is x;')
        given = played(text, say("go"), STATE, say("go"), STATE, say("go"), STATE)
        self.assertEqual(given, [told("2"), state(1), told("1"), state(2), told("3"), state(0)])

    def test_all_changes_at_once(self):
        text = ('var a = x y; var b = x y z; var c = x y; var d = x y;'
                'when "go" if a is x and b is x do b is z and a is y and d is y say "b";'
                'when "go" if a is y do a is x say "c"; won if c is y;')
        self.assertEqual(played(text, say("go"), STATE, say("go"), STATE),
                         [told("b"), state(1, 2, 0, 1), told("c"), state(0, 2, 0, 1)])

    def test_a_change_of_all_parts(self):
        names = "".join(f"var v{k} = x y z;" for k in range(24))
        change = " and ".join(f"v{k} is {'yz'[k % 2]}" for k in range(4, 20))
        text = f'{names} when "go" do {change} say "b"; won if v0 is y;'
        self.assertEqual(played(text, say("go"), STATE),
                         [told("b"), state(*[0] * 4, *[1 + k % 2 for k in range(4, 20)], *[0] * 4)])

    def test_shows_are_asked_behind_the_change(self):
        text = tale(more='show "now x" if a is x; show "now y" if a is y; show "not x" if a not x;')
        self.assertEqual(played(text, say("go")), [told("gone\nnow y\nnot x")])

    def test_shows_come_in_order(self):
        text = ('var a = x y; show "2"; when "go" say "b"; show "1" if a is x; won if a is y; show "no" if a is y;'
                'show "3"; show "2";')
        self.assertEqual(played(text, say("go"), say("go")), [told("b\n2\n1\n3\n2")] * 2)

    def test_shows_are_told_with_nothing_else(self):
        text = tale(whens='when "go" if a is y say "b";', more='show "s";')
        self.assertEqual(played(text, say("go"), say("no")), [NOT_NOW, NOT_KNOWN])

    def test_every_part_of_a_condition_counts(self):
        names = "".join(f"var v{k} = x y;" for k in range(16)) + "var w = x y;"
        condition = " and ".join(f"v{k} is y" for k in range(16))
        text = names + "".join(f'when "s{k}" do v{k} is y say "{k}";' for k in range(16))
        text += f'when "go" if {condition} do w is y say "b"; show "all" if {condition}; won if w is y;'
        for missing in range(16):
            calls = [say(f"s{k}") for k in range(16) if k != missing]
            self.assertEqual(played(text, *calls, say("go"))[15:], [NOT_NOW])
        given = played(text, *[say(f"s{k}") for k in range(16)], STATUS, say("go"), STATUS)
        self.assertEqual(given[14:], [told("14"), told("15\nall"), GOES_ON, told("b\nall"), WON])

    def test_not(self):
        text = ('var a = x y z; when "go" if a not z and a not y do a is y say "1";'
                'when "go" if a not x and a not z do a is z say "2"; won if a is z and a is x;')
        self.assertEqual(played(text, say("go"), say("go"), say("go")), [told("1"), told("2"), NOT_NOW])

    def test_every_sign_is_told_as_it_is(self):
        signs = "".join(chr(code) for code in range(32, 127) if code != 34)
        text = tale(whens=f'when "go" say "{signs}";', more=f'show "{signs}"; show "  A  b  ";')
        self.assertEqual(played(text, say("go")), [told(signs + "\n" + signs + "\n  A  b  ")])

    def test_the_most_that_is_told(self):
        text = tale(whens='when "go" say "' + "b" * 255 + '";', more=('show "' + "s" * 255 + '";') * 64)
        self.assertEqual(played(text, say("go")), [told("b" * 255 + ("\n" + "s" * 255) * 64)])

    def test_128_whens(self):
        whens = "".join(f'when "w{k}" if a is x say "no {k}"; when "w{k}" say "{k}";' for k in range(64))
        text = tale(names="var a = y x;", whens=whens, wons="won if a is x;")
        self.assertEqual(played(text, *[say(f"w{k}") for k in range(64)]), [told(str(k)) for k in range(64)])


class Status(unittest.TestCase):
    def ends(self, more, wons="won if a is z;"):
        return played(tale(names="var a = x y z;", more=more, wons=wons), STATUS, say("go"), STATUS)

    def test_goes_on(self):
        self.assertEqual(self.ends("lost if a is z;"), [GOES_ON, told("gone"), GOES_ON])

    def test_won(self):
        self.assertEqual(self.ends("", wons="won if a is y;"), [GOES_ON, told("gone"), WON])

    def test_lost(self):
        self.assertEqual(self.ends("lost if a is y;"), [GOES_ON, told("gone"), LOST])

    def test_some_won_or_lost_is_enough(self):
        wons = "won if a is z;" * 15 + "won if a is y;"
        self.assertEqual(self.ends("", wons=wons), [GOES_ON, told("gone"), WON])
        self.assertEqual(self.ends("", wons="won if a is y; won if a is z;"), [GOES_ON, told("gone"), WON])
        losts = "lost if a is z;" * 15 + "lost if a is y;"
        self.assertEqual(self.ends(losts), [GOES_ON, told("gone"), LOST])
        self.assertEqual(self.ends("lost if a is y; lost if a is z;"), [GOES_ON, told("gone"), LOST])

    def test_all_parts_are_asked(self):
        self.assertEqual(self.ends("lost if a is y and a is z;", wons="won if a is z and a is y;"),
                         [GOES_ON, told("gone"), GOES_ON])

    def test_status_and_state_change_nothing(self):
        given = played(tale(), STATUS, STATUS, STATE, STATE, say("go"), STATUS, STATE, STATUS, STATE)
        self.assertEqual(given, [GOES_ON, GOES_ON, state(0), state(0), told("gone"), WON, state(1), WON, state(1)])


class State(unittest.TestCase):
    def test_one_var(self):
        self.assertEqual(played(tale(), STATE), [[1] + [0] * 24])

    def test_24_vars_of_16_values(self):
        values = " ".join(f"x{k}" for k in range(16))
        names = "".join(f"var v{k} = {values};" for k in range(24))
        whens = "".join(f'when "s{k}" do v{k} is x{(k * 7 + 15) % 16} say "";' for k in range(24))
        text = names + whens + "won if v0 is x1;"
        given = played(text, STATE, *[say(f"s{k}") for k in range(24)], STATE)
        self.assertEqual(given[0], [24] + [0] * 24)
        self.assertEqual(given[-1], [24] + [(k * 7 + 15) % 16 for k in range(24)])

    def test_values_are_numbered_as_they_are_told(self):
        text = 'var a = z y x; when "x" do a is x say ""; when "y" do a is y say ""; won if a is z and a is x;'
        given = played(text, STATE, say("x"), STATE, say("y"), STATE)
        self.assertEqual(given[::2], [state(0), state(2), state(1)])


class Corners(unittest.TestCase):
    def test_a_var_none_asks_for(self):
        text = tale(names="var b = p q; var a = x y; var c = p q;")
        self.assertEqual(played(text, say("go"), STATE, STATUS), [told("gone"), state(0, 1, 0), WON])

    def test_two_whens_of_one_string_that_both_hold(self):
        text = ('var a = x y z; when "go" if a is x do a is y say "1"; when "go" if a not z do a is z say "2";'
                "won if a is z;")
        self.assertEqual(played(text, say("go"), STATE, say("go"), STATE), [told("1"), state(1), told("2"), state(2)])

    def test_a_change_to_what_is_so_already(self):
        text = tale(whens='when "stay" do a is x say "b";', more='show "s" if a is x;')
        self.assertEqual(played(text, say("stay"), STATE, STATUS, say("stay")),
                         [told("b\ns"), state(0), GOES_ON, told("b\ns")])

    def test_no_change(self):
        text = tale(whens='when "look" say "b";', more='show "s" if a is x;')
        self.assertEqual(played(text, say("look"), STATE), [told("b\ns"), state(0)])

    def test_won_at_first(self):
        self.assertEqual(played(tale(wons="won if a is x;"), STATUS, say("go"), say("no"), STATE),
                         [WON, OVER, OVER, state(0)])

    def test_lost_at_first(self):
        self.assertEqual(played(tale(more="lost if a is x;"), STATUS, say("go"), say("no"), STATE),
                         [LOST, OVER, OVER, state(0)])

    def test_lost_and_won_at_once(self):
        text = tale(more="lost if a is y;")
        self.assertEqual(played(text, say("go"), STATUS, say("go")), [told("gone"), LOST, OVER])
        text = tale(more="lost if a is x;", wons="won if a is x;")
        self.assertEqual(played(text, STATUS, say("go")), [LOST, OVER])

    def test_the_turn_that_ends_it_is_told_whole(self):
        text = tale(more='show "the end" if a is y;')
        self.assertEqual(played(text, say("go"), STATUS), [told("gone\nthe end"), WON])

    def test_a_line_of_blanks(self):
        self.assertEqual(played(tale(), say("   "), STATE), [NOT_KNOWN, state(0)])

    def test_a_string_of_no_bytes_told(self):
        self.assertEqual(played(tale(whens='when "go" say "";'), say("go")), [[2]])
        self.assertEqual(played(tale(whens='when "go" say "";', more='show ""; show "";'), say("go")), [[2, 10, 10]])
        self.assertEqual(played(tale(whens='when "go" say "";', more='show ""; show "s";'), say("go")),
                         [told("\n\ns")])

    def test_names_that_are_also_what_is_typed(self):
        text = ('var door = shut wide; var shut = door var; when "door" do door is wide say "door";'
                'when "shut" do shut is var say "shut"; when "var" say "var"; when "when say" say "when";'
                "won if door is wide and shut is var;")
        given = played(text, say("var"), say("when say"), say("door"), STATE, say("shut"), STATE, STATUS)
        self.assertEqual(given, [told("var"), told("when"), told("door"), state(1, 0), told("shut"), state(1, 1), WON])

    def test_a_when_that_asks_for_the_same_twice(self):
        text = tale(whens='when "go" if a is x and a is x do a is y say "b";')
        self.assertEqual(played(text, say("go"), STATE), [told("b"), state(1)])
        text = tale(whens='when "go" if a is x and a not x do a is y say "b";')
        self.assertEqual(played(text, say("go"), STATE), [NOT_NOW, state(0)])

    def test_words_of_the_sentences_as_values(self):
        text = ('var a = and is not; when "go" if a is and and a not is do a is is say "1";'
                'when "go" if a is is do a is not say "2"; won if a not and and a not is;')
        self.assertEqual(read_answer(text), [0])
        self.assertEqual(played(text, say("go"), STATE, say("go"), STATE, STATUS),
                         [told("1"), state(1), told("2"), state(2), WON])

    def test_a_read_in_the_middle_of_a_play_that_is_taken(self):
        given = ask(read(tale()), START, say("go"), STATUS, read(tale()), START, STATUS, say("go"))
        self.assertEqual(given[3:], [WON, [0], [0], GOES_ON, told("gone")])


if __name__ == "__main__":
    unittest.main()
