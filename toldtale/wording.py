"""A tale's text taken apart into words, and a typed line made plain."""

LETTERS = "abcdefghijklmnopqrstuvwxyz"
DIGITS = "0123456789"
SIGNS = {61: "=", 59: ";"}
LINE_FEED = 10
BLANK = 32
QUOTE = 34
LAST_CODE = 126
MOST_NAME_SIGNS = 12
MOST_STRING_SIGNS = 255


class NoTale(ValueError):
    pass


def is_letter(code):
    return 97 <= code <= 122


def is_digit(code):
    return 48 <= code <= 57


def is_big_letter(code):
    return 65 <= code <= 90


def name_sign(code):
    if is_letter(code):
        return LETTERS[code - 97]
    return DIGITS[code - 48]


def end_of_name(text, begin):
    end = begin
    while end < len(text) and (is_letter(text[end]) or is_digit(text[end])):
        end += 1
    if end - begin > MOST_NAME_SIGNS:
        raise NoTale("a name is too long")
    return end


def end_of_string(text, begin):
    end = begin + 1
    while end < len(text) and text[end] != QUOTE:
        if not BLANK <= text[end] <= LAST_CODE:
            raise NoTale("a string has a byte that it may not have")
        end += 1
    if end == len(text):
        raise NoTale("a string is never ended")
    if end - begin - 1 > MOST_STRING_SIGNS:
        raise NoTale("a string is too long")
    return end + 1


def end_of_word(text, begin):
    code = text[begin]
    if is_letter(code):
        return end_of_name(text, begin)
    if code == QUOTE:
        return end_of_string(text, begin)
    if code in SIGNS:
        return begin + 1
    raise NoTale("a byte begins no word")


# A sign's kind is the sign itself, so that one can be asked for like a name or a string.
def word_from(codes):
    if is_letter(codes[0]):
        return ("name", "".join([name_sign(code) for code in codes]))
    if codes[0] == QUOTE:
        return ("string", codes[1:-1])
    return (SIGNS[codes[0]], SIGNS[codes[0]])


def words_of(text):
    words = []
    place = 0
    while place < len(text):
        if text[place] == LINE_FEED or text[place] == BLANK:
            place += 1
        else:
            end = end_of_word(text, place)
            words.append(word_from(text[place:end]))
            place = end
    return words


def plain_line(line):
    plain = []
    for code in line:
        if is_big_letter(code):
            plain.append(code + 32)
        elif code != BLANK:
            plain.append(code)
        elif len(plain) > 0 and plain[-1] != BLANK:
            plain.append(BLANK)
    if len(plain) > 0 and plain[-1] == BLANK:
        plain.pop()
    return plain
