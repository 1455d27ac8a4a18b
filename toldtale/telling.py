"""A tale read from its text, or refused as none."""

from toldtale.wording import BLANK, NoTale, is_digit, is_letter, plain_line, words_of

MOST_TEXT = 24576
KEPT_WORDS = ("var", "when", "show", "won", "lost", "if", "do", "say", "is", "not", "and")
MOST_VARS = 24
LEAST_CHOICES = 2
MOST_CHOICES = 16
MOST_WHENS = 128
MOST_SHOWS = 64
MOST_WONS = 16
MOST_LOSTS = 16
MOST_PARTS = 16
MOST_TYPED = 40


class TooLong(ValueError):
    pass


class When:
    def __init__(self, typed, condition, change, told):
        self.typed = typed
        self.condition = condition
        self.change = change
        self.told = told


class Show:
    def __init__(self, told, condition):
        self.told = told
        self.condition = condition


# Vars and their values are kept by number: names are only needed while the text is read.
# A condition is a list of (var, value, whether it's to be so), a change one of (var, value).
class Tale:
    def __init__(self):
        self.numbers = {}
        self.choices = []
        self.whens = []
        self.shows = []
        self.wons = []
        self.losts = []


class Reader:
    def __init__(self, words):
        self.words = words
        self.place = 0

    def done(self):
        return self.place == len(self.words)

    def sees(self, kind):
        return not self.done() and self.words[self.place][0] == kind

    def take(self, kind):
        if not self.sees(kind):
            raise NoTale("a sentence is in no form told")
        self.place += 1
        return self.words[self.place - 1][1]

    def passes(self, name):
        if self.sees("name") and self.words[self.place][1] == name:
            self.place += 1
            return True
        return False

    def need(self, name):
        if not self.passes(name):
            raise NoTale("a sentence lacks a word of its form")


def check_count(count, least, most):
    if not least <= count <= most:
        raise NoTale("there are too few or too many of something")


def read_choices(reader):
    choices = {}
    while reader.sees("name"):
        choice = reader.take("name")
        if choice in choices:
            raise NoTale("a var has a value twice")
        choices[choice] = len(choices)
    check_count(len(choices), LEAST_CHOICES, MOST_CHOICES)
    return choices


def read_var(reader, tale):
    name = reader.take("name")
    if name in KEPT_WORDS or name in tale.numbers:
        raise NoTale("a var can't be called so")
    reader.take("=")
    choices = read_choices(reader)
    reader.take(";")
    tale.numbers[name] = len(tale.choices)
    tale.choices.append(choices)


def read_var_number(reader, tale):
    name = reader.take("name")
    if name not in tale.numbers:
        raise NoTale("a name is no var's")
    return tale.numbers[name]


def read_choice_number(reader, choices):
    choice = reader.take("name")
    if choice not in choices:
        raise NoTale("a value is none of its var's")
    return choices[choice]


def read_condition_part(reader, tale):
    var = read_var_number(reader, tale)
    asked = reader.passes("is")
    if not asked:
        reader.need("not")
    return (var, read_choice_number(reader, tale.choices[var]), asked)


def read_change_part(reader, tale):
    var = read_var_number(reader, tale)
    reader.need("is")
    return (var, read_choice_number(reader, tale.choices[var]))


def read_condition(reader, tale):
    parts = [read_condition_part(reader, tale)]
    while reader.passes("and"):
        parts.append(read_condition_part(reader, tale))
    check_count(len(parts), 1, MOST_PARTS)
    return parts


def read_change(reader, tale):
    parts = [read_change_part(reader, tale)]
    while reader.passes("and"):
        parts.append(read_change_part(reader, tale))
    check_count(len(parts), 1, MOST_PARTS)
    if len(set([part[0] for part in parts])) != len(parts):
        raise NoTale("a change has a name twice")
    return parts


# A condition of no parts always holds, as one that's missing is to.
def read_if(reader, tale):
    if reader.passes("if"):
        return read_condition(reader, tale)
    return []


def check_typed(typed):
    check_count(len(typed), 1, MOST_TYPED)
    for code in typed:
        if not (is_letter(code) or is_digit(code) or code == BLANK):
            raise NoTale("what's typed has a sign that it may not have")
    if plain_line(typed) != typed:
        raise NoTale("what's typed has a blank where none may be")


def read_when(reader, tale):
    typed = reader.take("string")
    check_typed(typed)
    condition = read_if(reader, tale)
    change = read_change(reader, tale) if reader.passes("do") else []
    reader.need("say")
    tale.whens.append(When(typed, condition, change, reader.take("string")))


def read_show(reader, tale):
    told = reader.take("string")
    tale.shows.append(Show(told, read_if(reader, tale)))


def read_end(reader, tale, ends):
    reader.need("if")
    ends.append(read_condition(reader, tale))


def read_rule(reader, tale):
    if reader.passes("when"):
        read_when(reader, tale)
    elif reader.passes("show"):
        read_show(reader, tale)
    elif reader.passes("won"):
        read_end(reader, tale, tale.wons)
    else:
        reader.need("lost")
        read_end(reader, tale, tale.losts)
    reader.take(";")


def check_tale(tale):
    check_count(len(tale.choices), 1, MOST_VARS)
    check_count(len(tale.whens), 1, MOST_WHENS)
    check_count(len(tale.shows), 0, MOST_SHOWS)
    check_count(len(tale.wons), 1, MOST_WONS)
    check_count(len(tale.losts), 0, MOST_LOSTS)


def tale_of(text):
    if len(text) > MOST_TEXT:
        raise TooLong("the text is too long")
    reader = Reader(words_of(text))
    tale = Tale()
    while reader.passes("var"):
        read_var(reader, tale)
    while not reader.done():
        read_rule(reader, tale)
    check_tale(tale)
    return tale
