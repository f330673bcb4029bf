"""Bytes, lines, words and numbers of texts."""

LINE_END = 10
BLANK = 32
LETTERS = "abcdefghijklmnopqrstuvwxyz"
DIGITS = "0123456789"
LONGEST_NAME = 10
# More digits are beyond every range that a form knows.
LONGEST_NUMBER = 7


# No right word holds another sign, so all the others may become the same one.
def sign_of(byte):
    if byte == BLANK:
        return " "
    if ord("a") <= byte <= ord("z"):
        return LETTERS[byte - ord("a")]
    if ord("0") <= byte <= ord("9"):
        return DIGITS[byte - ord("0")]
    return "?"


def bytes_of(text):
    return [ord(sign) for sign in text]


# The last line's end may be missing, so what is left over is a line too.
def lines_of(data):
    lines = []
    line = []
    for byte in data:
        if byte == LINE_END:
            lines.append(line)
            line = []
        else:
            line.append(byte)
    if line != []:
        lines.append(line)
    return lines


def words_of(line):
    text = "".join([sign_of(byte) for byte in line])
    return [word for word in text.split(" ") if word != ""]


def is_name(word):
    return 1 <= len(word) <= LONGEST_NAME and all([sign in LETTERS for sign in word])


def are_names(words):
    return all([is_name(word) for word in words])


def is_number(word):
    if word == "" or not all([sign in DIGITS for sign in word]):
        return False
    return word == "0" or word[0] != "0"


def is_number_within(word, least, most):
    return is_number(word) and len(word) <= LONGEST_NUMBER and least <= int(word) <= most


def are_numbers_within(words, least, most):
    return all([is_number_within(word, least, most) for word in words])
