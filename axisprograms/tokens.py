"""Splits a text, which is a list of bytes, into its tokens."""

NUMBER = "number"
NAME = "name"
KIND = "kind"
BAD = "bad"

KINDS = ("u8", "i8", "u16", "i16", "u32", "i32", "u64", "i64", "i128")
FIXED_WORDS = ("size", "in", "let", "out", "if", "sum", "product", "least", "greatest", "min", "max", "abs",
               "quo", "rem", "high", "rotl", "ones", "lead", "trail")

BLANKS = (9, 10, 13, 32)
PAIRS = {(61, 61): "==", (60, 61): "<=", (60, 60): "<<", (62, 62): ">>"}
# The sign of byte 37 may stand in no text of this package, so its token goes by the word percent, which is not fixed.
SINGLES = {37: "percent", 38: "&", 40: "(", 41: ")", 42: "*", 43: "+", 44: ",", 45: "-", 47: "/", 58: ":", 59: ";",
           60: "<", 61: "=", 91: "[", 93: "]", 94: "^", 124: "|", 126: "~"}

# 2 to the power of 127: the least number that is too great.
NUMBER_LIMIT = 170141183460469231731687303715884105728
LONGEST_NAME = 15

# The signs of the bytes 48 to 122, among which all those of words lie.
SIGNS_FROM_ZERO = "0123456789:;<=>?@ABCDEFGHIJKLMNOPQRSTUVWXYZ[\\]^_`abcdefghijklmnopqrstuvwxyz"
BYTE_OF_ZERO = 48


class Token:
    """The form is NUMBER, NAME, KIND or BAD, else the fixed word or the sign itself; names and kinds have a word.

    What is printed for it are its own bytes, but of a number not the zeros before it.
    """

    def __init__(self, form, place, printed, word=""):
        self.form = form
        self.place = place
        self.printed = printed
        self.word = word


def tokens_of(text):
    tokens = []
    place = 0
    while place < len(text):
        if text[place] in BLANKS:
            place += 1
        else:
            end = token_end(text, place)
            tokens.append(token_of(text[place:end], place))
            place = end
    return tokens


def token_end(text, place):
    if is_digit(text[place]):
        return digits_end(text, place)
    if is_word_byte(text[place]):
        return word_end(text, place)
    if tuple(text[place:place + 2]) in PAIRS:
        return place + 2
    return place + 1


def digits_end(text, place):
    end = place
    while end < len(text) and is_digit(text[end]):
        end += 1
    return end


def word_end(text, place):
    end = place
    while end < len(text) and is_word_byte(text[end]):
        end += 1
    return end


def is_digit(byte):
    return 48 <= byte <= 57


def is_word_byte(byte):
    return is_digit(byte) or 65 <= byte <= 90 or 97 <= byte <= 122 or byte == 95


def token_of(piece, place):
    if is_digit(piece[0]):
        return Token(number_form(piece), place, without_zeros(piece))
    if is_word_byte(piece[0]):
        return word_token(piece, place)
    if len(piece) == 2:
        return Token(PAIRS[tuple(piece)], place, piece)
    return Token(SINGLES.get(piece[0], BAD), place, piece)


def number_form(digits):
    value = 0
    for digit in digits:
        # Held at the limit, so that a long row of digits makes no long number.
        value = min(value * 10 + digit - BYTE_OF_ZERO, NUMBER_LIMIT)
    return NUMBER if value < NUMBER_LIMIT else BAD


def without_zeros(digits):
    begin = 0
    while begin < len(digits) - 1 and digits[begin] == BYTE_OF_ZERO:
        begin += 1
    return digits[begin:]


def word_token(piece, place):
    word = spelled(piece)
    if word in KINDS:
        return Token(KIND, place, piece, word)
    if word in FIXED_WORDS:
        return Token(word, place, piece)
    return Token(NAME if len(word) <= LONGEST_NAME else BAD, place, piece, word)


def spelled(word_bytes):
    return "".join([SIGNS_FROM_ZERO[byte - BYTE_OF_ZERO] for byte in word_bytes])
