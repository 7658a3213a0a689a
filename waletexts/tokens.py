"""The tokens of a text: names, numbers, and what stands as it is (words of the language, signs)."""

from waletexts.faults import ByteFault, NumberFault

END = "end"
NAME = "name"
NUMBER = "number"
FIXED = "fixed"

DIGIT_WORDS = ("k2tog", "k3tog", "p2tog", "m1l", "m1r")
LONGEST_DIGIT_WORD = 5
PLAIN = (
    "k", "p", "ktbl", "ptbl", "yo", "k2tog", "k3tog", "ssk", "sssk", "p2tog", "ssp", "cdd",
    "kfb", "pfb", "kp", "m1l", "m1r", "sl", "slf", "pso", "even", "co", "bo",
)
OTHER_WORDS = (
    "pattern", "sizes", "yarns", "let", "word", "block", "on", "round", "row", "rs", "ws", "repeat",
    "until", "work", "off", "to", "end", "last", "mark", "cl", "cr", "hold", "take", "yarn", "pass",
    "clear", "turn", "fasten",
)
SIGNS = {
    40: "(", 41: ")", 42: "*", 43: "+", 44: ",", 45: "-", 47: "/", 59: ";", 61: "=", 91: "[", 93: "]",
    123: "{", 125: "}",
}
LETTERS = "abcdefghijklmnopqrstuvwxyz"
DIGITS = "0123456789"

LINE_END = 10
BLANK = 32
HASH = 35
ZERO = 48
NINE = 57
UNDERSCORE = 95
LOWER_A = 97
LOWER_Z = 122
FIRST_BYTE = 32
LAST_BYTE = 126
LARGEST_NUMBER = 1048576


# What stands in a text from place up to after (which is behind it).
class Token:
    def __init__(self, kind, text, number, place, after):
        self.kind = kind
        self.text = text
        self.number = number
        self.place = place
        self.after = after


# The first token that begins at start or behind it; the text's end counts as one, so that it can be wanted too.
def token_at(t, start):
    place = skip_blanks(t, start)
    if place == len(t):
        return Token(END, "", 0, place, place)
    byte = t[place]
    if is_letter(byte):
        return word_token(t, place)
    if is_digit(byte):
        return number_token(t, place)
    if byte in SIGNS:
        return Token(FIXED, SIGNS[byte], 0, place, place + 1)
    raise ByteFault(place)


def skip_blanks(t, start):
    place = start
    while place < len(t):
        if t[place] == HASH:
            place = skip_comment(t, place)
        elif t[place] == LINE_END or t[place] == BLANK:
            place += 1
        else:
            return place
    return place


def skip_comment(t, start):
    place = start
    while place < len(t) and t[place] != LINE_END:
        if t[place] < FIRST_BYTE or t[place] > LAST_BYTE:
            raise ByteFault(place)
        place += 1
    return place


def word_token(t, place):
    digit_word = digit_word_at(t, place)
    if digit_word != "":
        return Token(FIXED, digit_word, 0, place, place + len(digit_word))
    after = place
    while after < len(t) and (is_letter(t[after]) or t[after] == UNDERSCORE):
        after += 1
    text = spelled(t[place:after])
    if text in PLAIN or text in OTHER_WORDS:
        return Token(FIXED, text, 0, place, after)
    return Token(NAME, text, 0, place, after)


# The digit word that stands at place, or an empty text.
def digit_word_at(t, place):
    after = place
    # One byte more than a digit word has is enough to see that something follows right behind it.
    while after < len(t) and after <= place + LONGEST_DIGIT_WORD and is_letter_digit_or_underscore(t[after]):
        after += 1
    text = spelled(t[place:after])
    return text if text in DIGIT_WORDS else ""


def number_token(t, place):
    after = place
    number = 0
    while after < len(t) and is_digit(t[after]):
        # Kept just above the largest, for a text may have thousands of digits.
        number = min(number * 10 + t[after] - ZERO, LARGEST_NUMBER + 1)
        after += 1
    begun_with_zero = t[place] == ZERO and after > place + 1
    if begun_with_zero or number > LARGEST_NUMBER:
        raise NumberFault(place)
    return Token(NUMBER, "", number, place, after)


def spelled(codes):
    return "".join([sign_of(byte) for byte in codes])


def sign_of(byte):
    if is_letter(byte):
        return LETTERS[byte - LOWER_A]
    if is_digit(byte):
        return DIGITS[byte - ZERO]
    return "_"


def is_letter(byte):
    return LOWER_A <= byte <= LOWER_Z


def is_digit(byte):
    return ZERO <= byte <= NINE


def is_letter_digit_or_underscore(byte):
    return is_letter(byte) or is_digit(byte) or byte == UNDERSCORE
