import unittest

from tests.helper import START, STATE, ask, codes, read, read_answer, say, state, tale, told

TAKEN = [0]
TOO_LONG = [-22]
NO_TALE = [-71]

LETTERS = "abcdefghijklmnopqrstuvwxyz"
KEPT_WORDS = "var when show won lost if do say is not and".split()


def padded(text, size):
    return text + " " * (size - len(text))


def many_vars(count):
    return "var a = x y;" + "".join(f"var v{k} = x y;" for k in range(count - 1))


def parts(count, first="a is x"):
    return " and ".join([first] * count)


class ReadCase(unittest.TestCase):
    def taken(self, text):
        self.assertEqual(read_answer(text), TAKEN, text)

    def refused(self, text):
        self.assertEqual(read_answer(text), NO_TALE, text)


class Layouts(ReadCase):
    def test_one_sentence_a_row(self):
        self.taken('var a = x y ;\nwhen "go" if a is x do a is y say "Gone." ;\n'
                   'show "Here." if a not y ;\nwon if a is y ;\nlost if a not x and a not y ;\n')

    def test_no_blank_where_none_is_needed(self):
        self.taken('var a=x y;when"go"if a is x do a is y say"Gone.";show"Here."if a not y;'
                   'won if a is y;lost if a not x;')

    def test_blanks_wherever_they_may_stand(self):
        self.taken(' \n\n var\na\n=\nx\n\n y\n;\n when\n\n"go"  if\na\nis\nx do a\nis y\nsay\n"Gone."\n;'
                   '\n  won\nif\na  is\n\ny\n;\n \n')

    def test_rules_in_any_order(self):
        self.taken('var a = x y; lost if a not x; won if a is y; show "s"; when "go" say "b"; show "t";'
                   'won if a is x; when "go" say "c"; lost if a is y;')

    def test_parts_that_may_be_missing(self):
        for when in ('when "go" say "b";', 'when "go" if a is x say "b";', 'when "go" do a is y say "b";',
                     'when "go" if a is x do a is y say "b";'):
            self.taken(tale(whens=when))
        self.taken(tale(more='show "s";'))
        self.taken(tale(more='show "s" if a is x;'))

    def test_two_names_need_a_blank_between(self):
        self.refused(tale(wons="wonif a is y;"))
        self.refused(tale(wons="won ifa is y;"))
        self.refused(tale(wons="won if a isy;"))
        self.refused(tale(names="vara = x y;"))


class TextLength(ReadCase):
    def test_just_as_long_as_may_be(self):
        self.taken(padded(tale(), 24576))

    def test_one_byte_longer(self):
        self.assertEqual(read_answer(padded(tale(), 24577)), TOO_LONG)

    def test_the_longest_list(self):
        self.assertEqual(read_answer(padded(tale(), 29000)), TOO_LONG)

    def test_too_long_comes_ahead_of_no_tale(self):
        self.assertEqual(read_answer([0] * 24577), TOO_LONG)
        self.assertEqual(read_answer([0] * 24576), NO_TALE)


class Bytes(ReadCase):
    def test_no_other_byte_between_words(self):
        for code in range(256):
            text = codes("var a = x y ;") + [code] + codes('when "go" say "b"; won if a is y;')
            self.assertEqual(read_answer(text), TAKEN if code in (10, 32) else NO_TALE, code)

    def test_no_other_byte_at_the_end(self):
        for code in range(256):
            answer = read_answer(codes(tale()) + [code])
            self.assertEqual(answer, TAKEN if code in (10, 32) else NO_TALE, code)

    def test_bytes_of_a_string(self):
        for code in range(256):
            for whens in ('when "go" say "b', 'when "go" say "b"; show "b'):
                text = codes("var a = x y;" + whens) + [code] + codes('b"; won if a is y;')
                fits = 32 <= code <= 126 and code != 34
                self.assertEqual(read_answer(text), TAKEN if fits else NO_TALE, code)

    def test_bytes_of_a_name(self):
        for code in range(256):
            text = codes("var a = x y y") + [code] + codes('b;when "go" say "b"; won if a is y;')
            fits = code in codes(LETTERS + "0123456789")
            self.assertEqual(read_answer(text), TAKEN if fits else NO_TALE, code)

    def test_a_string_in_a_string_is_none(self):
        self.refused(tale(whens='when "go" say "b" "c";'))
        self.refused(tale(whens='when "go" say "b""c";'))


class Names(ReadCase):
    def test_twelve_signs_and_not_thirteen(self):
        self.taken(f"var {LETTERS[:12]} = x y; when \"go\" say \"b\"; won if {LETTERS[:12]} is y;")
        self.refused(f"var {LETTERS[:13]} = x y; when \"go\" say \"b\"; won if {LETTERS[:13]} is y;")

    def test_a_long_name_is_not_taken_as_two(self):
        self.taken(tale(names="var a = x y abcdefghijkl m;"))
        self.refused(tale(names="var a = x y abcdefghijklm;"))
        self.refused(tale(names="var a = x y abcdefghijk12;"))

    def test_digits_behind_the_first_sign(self):
        self.taken('var a01234567890 = x0 y9; when "go" say "b"; won if a01234567890 is y9;')

    def test_begun_with_a_digit(self):
        self.refused('var 1a = x y; when "go" say "b"; won if 1a is y;')
        self.refused(tale(names="var a = x y 1z;"))
        self.refused(tale(names="var a = x y 0;"))

    def test_every_letter_is_told_apart(self):
        names = list(LETTERS) + [f"n{k}" for k in range(10)]
        for k in range(0, len(names), 12):
            self.taken(tale(names="var a = x y; var b = " + " ".join(names[k:k + 12]) + ";"))

    def test_a_name_is_the_whole_name(self):
        self.refused(tale(wons="won if aa is y;"))
        self.refused(tale(wons="won if a is yy;"))
        self.refused(tale(names="var ab = x y;"))
        self.refused(tale(names="var a = x yy;"))


class Strings(ReadCase):
    def test_255_signs_and_not_256(self):
        for count, check in ((255, self.taken), (256, self.refused)):
            check(tale(whens=f'when "go" say "{"b" * count}";'))
            check(tale(more=f'show "{"b" * count}";'))

    def test_of_no_signs(self):
        self.taken(tale(whens='when "go" say "";', more='show "";'))

    def test_never_ended(self):
        self.refused(tale() + '"')
        self.refused(tale() + 'show "b;')
        self.refused(tale(whens='when "go" say "b;'))
        self.refused(tale() + 'show "b" if a is x; "')


class Forms(ReadCase):
    def test_nothing_and_blanks_alone(self):
        self.refused("")
        self.refused(" \n ")

    def test_vars(self):
        for names in ("var a x y;", "var a = x y", "var a == x y;", "var = x y;", "var a = ;", "var a = x = y;",
                      "a = x y;", 'var "a" = x y;', 'var a = "x" y;', "var a = x y;;", "var a b = x y;", "vars a = x y;",
                      "var a = x; y;", ";var a = x y;"):
            self.refused(tale(names=names))

    def test_whens(self):
        for when in ('when go say "b";', 'when "go" "b";', 'when "go" say b;', 'when "go" say;', 'when "go";',
                     'when say "b";', 'when "go" say "b"', 'when "go" if say "b";', 'when "go" do say "b";',
                     'when "go" do a is y if a is x say "b";', 'when "go" say "b" if a is x;', '"go" say "b";',
                     'when "go" say "b" do a is y;', 'when "go" do a not y say "b";', 'when "go" a is y say "b";',
                     'when "go" if a is x and say "b";', 'when "go" do a is y and say "b";',
                     'when "go" if a is x if a is x say "b";', 'when "go" do a is y do a is y say "b";',
                     'when "go" if a is x a is y say "b";', 'when "go" if and a is x say "b";', 'when;',
                     'when "go" if a = x say "b";', 'when "go" do a = y say "b";', 'when = "go" say "b";',
                     'when "go" do a y say "b";', 'when "go" if a x say "b";', 'when "go" if a is not x say "b";',
                     'when "go" if a say "b";', 'when "go" if "a" is x say "b";', 'when "go" if a is "x" say "b";',
                     'when "go" say "b" say "b";', 'whens "go" say "b";', 'when "go" says "b";'):
            self.refused(tale(whens=when))

    def test_shows(self):
        for show in ('show b;', 'show;', 'show "b"', 'show "b" if;', 'show "b" a is x;', 'show "b" do a is x;',
                     'show if a is x "b";', 'show "b" say "c";', 'shows "b";', '"b";', 'show "b" if a is x and;'):
            self.refused(tale(more=show))

    def test_wons_and_losts(self):
        for end in ("won", "lost"):
            self.taken(tale(more=f"{end} if a is x;"))
            for rest in (";", " if;", " a is x;", " if a is x", ' "b" if a is x;', " if a is x do a is y;",
                         " if a is x and;", " if a is x say b;", " if a;", " if a is;", " if a x;", "s if a is x;"):
                self.refused(tale(more=end + rest))

    def test_last_sentence_not_ended(self):
        self.refused(tale(wons="won if a is y"))
        self.refused(tale(wons="won if a is"))
        self.refused(tale(wons="won if a"))
        self.refused(tale() + "var")
        self.refused(tale() + "when")

    def test_other_sentences(self):
        for more in (";", "=", "a", "drawn if a is x;", "if a is x;", "and;", "is;", "not;", "do a is y;", 'say "b";'):
            self.refused(tale(more=more))

    def test_a_var_behind_another_sentence(self):
        for sentence in ('when "go" say "b";', 'show "b";', "won if a is y;", "lost if a is y;"):
            self.taken("var a = x y; var b = x y;" + sentence + 'when "go" say "b"; won if a is y;')
            self.refused("var a = x y;" + sentence + 'var b = x y; when "go" say "b"; won if a is y;')


class VarsAndValues(ReadCase):
    def test_a_name_that_is_no_vars(self):
        self.refused(tale(wons="won if b is y;"))
        self.refused(tale(more="lost if b not y;"))
        self.refused(tale(more='show "b" if x is y;'))
        self.refused(tale(whens='when "go" if b is y say "b";'))
        self.refused(tale(whens='when "go" do b is y say "b";'))

    def test_a_value_that_is_none_of_its(self):
        names = "var a = x y; var b = p q;"
        self.taken(tale(names=names, more='show "b" if a is x and b is p;'))
        for value in ("p", "z", "a"):
            self.refused(tale(names=names, wons=f"won if a is {value};"))
            self.refused(tale(names=names, more=f"lost if a not {value};"))
            self.refused(tale(names=names, more=f'show "b" if b is p and a is {value};'))
            self.refused(tale(names=names, whens=f'when "go" if a is {value} say "b";'))
            self.refused(tale(names=names, whens=f'when "go" do a is {value} say "b";'))

    def test_names_of_vars_differ(self):
        self.refused(tale(names="var a = x y; var a = x y;"))
        self.refused(tale(names="var a = x y; var b = x y; var a = p q;"))

    def test_values_of_a_var_differ(self):
        self.refused(tale(names="var a = x y x;"))
        self.refused(tale(names="var a = x y y;"))
        self.taken(tale(names="var a = x y; var b = x y;"))

    def test_a_name_twice_in_a_change(self):
        names = "var a = x y; var b = x y;"
        for change in ("a is x and a is y", "a is y and a is y", "a is y and b is y and a is x"):
            self.refused(tale(names=names, whens=f'when "go" do {change} say "b";'))
        self.taken(tale(names=names, whens='when "go" do a is y and b is y say "b";'))

    def test_a_name_twice_in_a_condition(self):
        self.taken(tale(wons="won if a is y and a is y and a not x and a is x;"))
        self.taken(tale(whens='when "go" if a is x and a is x say "b";'))

    def test_words_that_are_no_vars_names(self):
        for word in KEPT_WORDS:
            self.refused(tale(names=f"var a = x y; var {word} = x y;"))
            self.taken(tale(names=f"var a = x y; var {word}s = x y;"))

    def test_these_words_may_be_values(self):
        for word in KEPT_WORDS:
            self.taken(f'var a = x {word}; when "go" if a is {word} and a not {word} do a is {word} say "b";'
                       f'show "b" if a is {word}; won if a is {word}; lost if a not {word} and a is {word};')

    def test_a_vars_name_may_be_a_value(self):
        self.taken("var a = a b; var b = b a;" + 'when "a" do a is a say "a"; won if a is b and b is a;')


class Bounds(ReadCase):
    def test_vars(self):
        self.refused(tale(names=""))
        self.refused('when "go" say "b"; won if a is y;')
        self.taken(tale(names=many_vars(1)))
        self.taken(tale(names=many_vars(24)))
        self.refused(tale(names=many_vars(25)))

    def test_values(self):
        for count, check in ((0, self.refused), (1, self.refused), (2, self.taken), (16, self.taken),
                             (17, self.refused)):
            check(tale(names="var a = x y; var b = " + " ".join(f"v{k}" for k in range(count)) + ";"))

    def test_whens(self):
        for count, check in ((0, self.refused), (1, self.taken), (128, self.taken), (129, self.refused)):
            check(tale(whens='when "go" do a is y say "b";' * count))

    def test_shows(self):
        for count, check in ((0, self.taken), (64, self.taken), (65, self.refused)):
            check(tale(more='show "b";' * count))

    def test_wons(self):
        for count, check in ((0, self.refused), (1, self.taken), (16, self.taken), (17, self.refused)):
            check(tale(wons="won if a is y;" * count))

    def test_losts(self):
        for count, check in ((0, self.taken), (16, self.taken), (17, self.refused)):
            check(tale(more="lost if a is y;" * count))

    def test_parts_of_a_condition(self):
        for count, check in ((1, self.taken), (16, self.taken), (17, self.refused)):
            check(tale(whens=f'when "go" if {parts(count)} say "b";'))
            check(tale(more=f'show "b" if {parts(count)};'))
            check(tale(wons=f"won if {parts(count)};"))
            check(tale(more=f"lost if {parts(count, 'a not x')};"))

    def test_parts_of_a_change(self):
        for count, check in ((1, self.taken), (16, self.taken), (17, self.refused)):
            change = " and ".join(f"v{k} is y" for k in range(count))
            check(tale(names=many_vars(24), whens=f'when "go" do {change} say "b";'))

    def test_all_bounds_at_once(self):
        values = " ".join(f"x{k}" for k in range(16))
        names = "".join(f"var v{k}={values};" for k in range(24))
        condition = " and ".join(f"v{k} is x1" for k in range(16))
        text = names + 'when"a"say"";' * 128 + 'show"";' * 64
        text += f"won if {condition};" * 16 + f"lost if {condition};" * 16
        self.taken(padded(text, 24576))


class Typed(ReadCase):
    def typed(self, text):
        return tale(whens=f'when "{text}" say "b";')

    def test_letters_digits_and_single_blanks(self):
        for text in ("a", "0", "z 9", "a b c", "open the door 2", LETTERS, "0123456789", "12 monkeys"):
            self.taken(self.typed(text))

    def test_forty_bytes_and_not_more_or_none(self):
        self.taken(self.typed("a" * 40))
        self.taken(self.typed("a " * 19 + "bc"))
        self.refused(self.typed("a" * 41))
        self.refused(self.typed(""))

    def test_blanks_where_none_may_be(self):
        for text in (" a", "a ", "a  b", " ", "  ", "a b  c", " a b"):
            self.refused(self.typed(text))

    def test_every_sign(self):
        for code in range(32, 127):
            if code == 34:
                continue
            fits = code == 32 or chr(code) in LETTERS + "0123456789"
            self.assertEqual(read_answer(self.typed(f"a{chr(code)}b")), TAKEN if fits else NO_TALE, code)


class RefusedReads(unittest.TestCase):
    WALK = ("var a = x y z;"
            'when "go" if a is x do a is y say "b"; when "go" if a is y do a is z say "c"; won if a is z;')
    REFUSALS = ([0] * 24577, "", tale() + "x", "var a = x y; var b = x y z;", tale(wons=""))

    def test_tale_and_play_stay_as_they_were(self):
        for text in self.REFUSALS:
            given = ask(read(self.WALK), START, say("go"), read(text), STATE, say("go"), STATE)
            self.assertIn(given[3], (TOO_LONG, NO_TALE))
            self.assertEqual(given[4:], [state(1), told("c"), state(2)])

    def test_the_tale_stays_for_a_start(self):
        for text in self.REFUSALS:
            given = ask(read(self.WALK), read(text), START, say("go"), STATE)
            self.assertEqual(given[2:], [[0], told("b"), state(1)])

    def test_refused_reads_ahead_of_the_first(self):
        calls = [read(text) for text in self.REFUSALS]
        given = ask(*calls, read(self.WALK), START, STATE)
        self.assertEqual(given, [TOO_LONG] + [NO_TALE] * 4 + [[0], [0], state(0)])

    def test_what_a_refused_text_tells_is_not_kept(self):
        given = ask(read("var b = x y;" + 'when "no" say "n";' * 200), read(tale()), START, say("no"), STATE)
        self.assertEqual(given, [NO_TALE, TAKEN, [0], [0], state(0)])


if __name__ == "__main__":
    unittest.main()
