"""The tokens of a text: words, numbers, quoted texts and signs, each with its place."""

from speakcode.faults import NO_TOKEN, TEXT_TOO_LONG, TextFault

MOST_BYTES = 4096
MOST_WORD_BYTES = 16
MOST_DIGITS = 10
MOST_TOLD_BYTES = 255
GREATEST_NUMBER = 1000000000

DIGITS = "0123456789"
SMALL_DIGITS = "0123456789abcdef"
GREAT_LETTERS = "ABCDEFGHIJKLMNOPQRSTUVWXYZ"
SMALL_LETTERS = "abcdefghijklmnopqrstuvwxyz"
SIGNS = ("->", "<-", "=", "{", "}", "(", ")", "[", "]", ",", ";", ":", "!", "?", "|")

TAB = 9
LINE_END = 10
BLANK = 32
QUOTE = 34
REMARK = 35
MINUS = 45
BACKSLASH = 92
SMALL_X = 120
# The byte behind a backslash, and the byte that both stand for.
ESCAPES = {34: 34, 92: 92, 110: 10}


class Token:
    def __init__(self, kind, place, end, content):
        self.kind = kind
        self.place = place
        self.end = end
        self.content = content


def tokens_of(text):
    if len(text) > MOST_BYTES:
        raise TextFault(TEXT_TOO_LONG, MOST_BYTES)
    tokens = []
    place = behind_blanks(text, 0)
    while place < len(text):
        token = token_at(text, place)
        tokens.append(token)
        place = behind_blanks(text, token.end)
    # The end counts as a token of its own, so that what is missing there has a place.
    tokens.append(Token("end", len(text), len(text), ""))
    return tokens


def behind_blanks(text, place):
    while byte_at(text, place) in (BLANK, TAB, LINE_END, REMARK):
        if text[place] == REMARK:
            place = behind_remark(text, place)
        else:
            place += 1
    return place


def behind_remark(text, place):
    while place < len(text) and text[place] != LINE_END:
        place += 1
    return place


def token_at(text, place):
    byte = text[place]
    if is_letter(byte):
        return word_at(text, place)
    if is_digit(byte) or (byte == MINUS and is_digit(byte_at(text, place + 1))):
        return number_at(text, place)
    if byte == QUOTE:
        return quoted_at(text, place)
    return sign_at(text, place)


def word_at(text, place):
    end = place
    while is_letter(byte_at(text, end)) or is_digit(byte_at(text, end)):
        end += 1
    if end - place > MOST_WORD_BYTES:
        raise TextFault(NO_TOKEN, place)
    return Token("word", place, end, "".join([letter_or_digit(byte) for byte in text[place:end]]))


def number_at(text, place):
    below_zero = text[place] == MINUS
    first = place + 1 if below_zero else place
    end = first
    while is_digit(byte_at(text, end)):
        end += 1
    number = number_of_digits(text[first:end])
    begins_with_zero = text[first] == ord("0") and (end - first > 1 or below_zero)
    if begins_with_zero or number > GREATEST_NUMBER:
        raise TextFault(NO_TOKEN, place)
    return Token("number", place, end, -number if below_zero else number)


def number_of_digits(digits):
    # Digits beyond these can't bring the number back within its bounds.
    number = 0
    for digit in digits[:MOST_DIGITS + 1]:
        number = number * 10 + digit - ord("0")
    return number


def quoted_at(text, place):
    told = []
    position = place + 1
    while byte_at(text, position) != QUOTE:
        byte = told_byte(text, position)
        if byte < 0 or len(told) == MOST_TOLD_BYTES:
            raise TextFault(NO_TOKEN, place)
        told.append(byte)
        position += told_length(text, position)
    return Token("quoted", place, position + 1, told)


# The byte that is told at a place within quotes; below 0 where none may stand so.
def told_byte(text, place):
    byte = byte_at(text, place)
    if byte == LINE_END:
        return -1
    if byte != BACKSLASH:
        return byte
    follower = byte_at(text, place + 1)
    if follower != SMALL_X:
        return ESCAPES.get(follower, -1)
    high = small_digit(byte_at(text, place + 2))
    low = small_digit(byte_at(text, place + 3))
    if high < 0 or low < 0:
        return -1
    return high * 16 + low


def told_length(text, place):
    if text[place] != BACKSLASH:
        return 1
    return 4 if text[place + 1] == SMALL_X else 2


def sign_at(text, place):
    for sign in SIGNS:
        end = place + len(sign)
        if text[place:end] == bytes_of(sign):
            return Token("sign", place, end, sign)
    raise TextFault(NO_TOKEN, place)


def bytes_of(characters):
    return [ord(character) for character in characters]


# Behind the text stands a byte that is none, so that no reader needs to ask for the end.
def byte_at(text, place):
    return text[place] if place < len(text) else -1


def is_digit(byte):
    return ord("0") <= byte <= ord("9")


def is_letter(byte):
    return ord("A") <= byte <= ord("Z") or ord("a") <= byte <= ord("z")


def small_digit(byte):
    for number, digit in enumerate(SMALL_DIGITS):
        if ord(digit) == byte:
            return number
    return -1


def letter_or_digit(byte):
    if is_digit(byte):
        return DIGITS[byte - ord("0")]
    if byte <= ord("Z"):
        return GREAT_LETTERS[byte - ord("A")]
    return SMALL_LETTERS[byte - ord("a")]
