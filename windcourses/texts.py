"""Texts as lists of bytes: their lines, words, numbers and names."""

LINE_END = 10
BLANK = 32
LAST_SIGN = 126
MINUS = 45
DIGIT_ZERO = 48
DIGIT_NINE = 57
UPPER_A = 65
UPPER_Z = 90
LOWER_A = 97
LOWER_Z = 122

MOST_DIGITS = 7
LONGEST_NAME = 12


def bytes_of(text):
    return [ord(sign) for sign in text]


def split_at(text, mark):
    pieces = []
    piece = []
    for sign in text:
        if sign == mark:
            pieces.append(piece)
            piece = []
        else:
            piece.append(sign)
    pieces.append(piece)
    return pieces


def lines_of(text):
    pieces = split_at(text, LINE_END)
    if len(pieces[-1]) == 0:
        pieces.pop()
    return pieces


def words_of(line):
    return [piece for piece in split_at(line, BLANK) if len(piece) > 0]


def is_readable(line):
    for sign in line:
        if sign < BLANK or sign > LAST_SIGN:
            return False
    return True


def is_digit(sign):
    return DIGIT_ZERO <= sign <= DIGIT_NINE


def is_name_sign(sign):
    is_letter = UPPER_A <= sign <= UPPER_Z or LOWER_A <= sign <= LOWER_Z
    return is_letter or is_digit(sign) or sign == MINUS


def is_name(word):
    if len(word) < 1 or len(word) > LONGEST_NAME:
        return False
    for sign in word:
        if not is_name_sign(sign):
            return False
    return True


# The number that the word is, or None.
def read_number(word):
    if len(word) < 1 or len(word) > MOST_DIGITS:
        return None
    if word[0] == DIGIT_ZERO and len(word) > 1:
        return None
    number = 0
    for sign in word:
        if not is_digit(sign):
            return None
        number = number * 10 + sign - DIGIT_ZERO
    return number


# The number with a sign that the word is, or None.
def read_signed(word):
    if word[0] != MINUS:
        return read_number(word)
    number = read_number(word[1:])
    if number is None or number == 0:
        return None
    return -number


# The number with a sign that the word is, or None if it is none or beyond the ends.
def read_within(word, least, most):
    number = read_signed(word)
    if number is None or number < least or number > most:
        return None
    return number


def line_of(words):
    line = []
    for word in words:
        if len(line) > 0:
            line.append(BLANK)
        line.extend(word)
    line.append(LINE_END)
    return line
