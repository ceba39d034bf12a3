"""The tokens of a text: words, names, numbers, signs and the end."""

from fewmeasures.faults import NO_TOKEN, Fault

WORDS = ("measures", "up", "down", "item")
SIGNS = {44: ",", 58: ":", 59: ";", 45: "-"}
NAME = "name"
NUMBER = "number"
END = "end"
BLANKS = (32, 9, 10)
LINE_END = 10
REMARK = 35
ZERO = 48
LONGEST_NAME = 16
GREATEST_NUMBER = 1000000000


class Token:
    """A token: NAME, NUMBER, END, or else the word or the sign itself; its place; its bytes."""

    def __init__(self, kind, place, spelling):
        self.kind = kind
        self.place = place
        self.spelling = spelling


def spelled(text):
    """The bytes of a Python text."""
    return [ord(sign) for sign in text]


def is_letter(byte):
    return 65 <= byte <= 90 or 97 <= byte <= 122


def is_digit(byte):
    return 48 <= byte <= 57


def amount(digits):
    """The number that the digits tell."""
    told = 0
    for digit in digits:
        told = told * 10 + digit - ZERO
    return told


def past_remark(text, at):
    while at < len(text) and text[at] != LINE_END:
        at += 1
    return at


def past_blanks(text, at):
    """The first place from here on that is in no blank and in no remark."""
    while at < len(text) and (text[at] in BLANKS or text[at] == REMARK):
        if text[at] == REMARK:
            at = past_remark(text, at)
        else:
            at += 1
    return at


def name_at(text, place):
    """The word or the name whose first letter stands there."""
    end = place
    while end < len(text) and (is_letter(text[end]) or is_digit(text[end])):
        end += 1
    spelling = text[place:end]
    for word in WORDS:
        if spelling == spelled(word):
            return Token(word, place, spelling)
    if len(spelling) > LONGEST_NAME:
        raise Fault(NO_TOKEN, place)
    return Token(NAME, place, spelling)


def number_at(text, place):
    """The number whose first digit stands there."""
    end = place
    while end < len(text) and is_digit(text[end]):
        end += 1
    digits = text[place:end]
    if len(digits) > 1 and digits[0] == ZERO:
        raise Fault(NO_TOKEN, place)
    if amount(digits) > GREATEST_NUMBER:
        raise Fault(NO_TOKEN, place)
    return Token(NUMBER, place, digits)


def token_at(text, place):
    """The token that begins there."""
    byte = text[place]
    if is_letter(byte):
        return name_at(text, place)
    if is_digit(byte):
        return number_at(text, place)
    if byte in SIGNS:
        return Token(SIGNS[byte], place, [byte])
    raise Fault(NO_TOKEN, place)


def tokens_of(text):
    """All tokens of the text, in order; the last one is its end."""
    tokens = []
    place = past_blanks(text, 0)
    while place < len(text):
        token = token_at(text, place)
        tokens.append(token)
        place = past_blanks(text, place + len(token.spelling))
    tokens.append(Token(END, len(text), []))
    return tokens
