"""From a text's bytes to its tokens."""

from leastroom.faults import NO_TOKEN, Fault

DIGITS = "0123456789"
SMALL_LETTERS = "abcdefghijklmnopqrstuvwxyz"
GREAT_LETTERS = "ABCDEFGHIJKLMNOPQRSTUVWXYZ"
SIGNS = "{},;:-."
RESERVED = ("record", "from", "to", "at", "maybe", "many", "one", "hot", "layout", "size", "of")

BLANKS = (32, 9, 10)
REMARK = 35
LINE_END = 10

LONGEST_NAME = 16
GREATEST_NUMBER = 1000000000
MOST_DIGITS = 10


# A reserved word and a sign are their own kind; no reserved word is called
# like one of the other kinds, which are name, number and end.
class Token:
    def __init__(self, kind, written, place):
        self.kind = kind
        self.written = written
        self.place = place


def tokens_of(text):
    tokens = []
    place = skip_blanks(text, 0)
    while place < len(text):
        token = token_at(text, place)
        tokens.append(token)
        place = skip_blanks(text, place + len(token.written))
    tokens.append(Token("end", "", len(text)))
    return tokens


def skip_blanks(text, place):
    while place < len(text) and (text[place] in BLANKS or text[place] == REMARK):
        if text[place] == REMARK:
            place = remark_end(text, place)
        else:
            place += 1
    return place


def remark_end(text, place):
    while place < len(text) and text[place] != LINE_END:
        place += 1
    return place


def token_at(text, place):
    if letter_of(text[place]) != "":
        return name_at(text, place)
    if digit_of(text[place]) != "":
        return number_at(text, place)
    for sign in SIGNS:
        if text[place] == ord(sign):
            return Token(sign, sign, place)
    raise Fault(NO_TOKEN, place)


def name_at(text, place):
    end = place
    while end < len(text) and letter_of(text[end]) + digit_of(text[end]) != "":
        end += 1
    if end - place > LONGEST_NAME:
        raise Fault(NO_TOKEN, place)
    written = "".join([letter_of(byte) + digit_of(byte) for byte in text[place:end]])
    if written in RESERVED:
        return Token(written, written, place)
    return Token("name", written, place)


def number_at(text, place):
    end = place
    while end < len(text) and digit_of(text[end]) != "":
        end += 1
    # Looked at before the number is made: as many digits as a text has would make a very long one.
    if end - place > MOST_DIGITS:
        raise Fault(NO_TOKEN, place)
    written = "".join([digit_of(byte) for byte in text[place:end]])
    if written != str(int(written)) or int(written) > GREATEST_NUMBER:
        raise Fault(NO_TOKEN, place)
    return Token("number", written, place)


# The letter that a byte stands for, or the empty text.
def letter_of(byte):
    if ord("a") <= byte <= ord("z"):
        return SMALL_LETTERS[byte - ord("a")]
    if ord("A") <= byte <= ord("Z"):
        return GREAT_LETTERS[byte - ord("A")]
    return ""


# The digit that a byte stands for, or the empty text.
def digit_of(byte):
    if ord("0") <= byte <= ord("9"):
        return DIGITS[byte - ord("0")]
    return ""
