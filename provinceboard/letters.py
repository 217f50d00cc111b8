"""Rows of bytes as texts and back, and the forms that a word may have."""

GREAT = "ABCDEFGHIJKLMNOPQRSTUVWXYZ"
SMALL = "abcdefghijklmnopqrstuvwxyz"
STROKE = "/"
REMARK = "#"

# Names are made of letters alone, so all other bytes need not be told apart:
# one sign stands for those that make a line wrong, one for the rest.
WRONG = "\t"
OTHER = "?"

LINE_END = 10
LEAST_PRINTED = 32
MOST_PRINTED = 126
KEPT = {32: " ", 35: "#", 47: "/"}


def sign_of(byte):
    if 97 <= byte <= 122:
        return SMALL[byte - 97]
    if 65 <= byte <= 90:
        return GREAT[byte - 65]
    if byte == LINE_END:
        return "\n"
    if byte < LEAST_PRINTED or byte > MOST_PRINTED:
        return WRONG
    return KEPT.get(byte, OTHER)


def text_of(row):
    return "".join([sign_of(byte) for byte in row])


def bytes_of(text):
    return [ord(sign) for sign in text]


# A row of bytes is answered with its count before it, so that its end is known.
def counted(text):
    return [len(text)] + bytes_of(text)


def words_of(line):
    return [word for word in line.split(" ") if word != ""]


def is_small(word, least, most):
    return least <= len(word) <= most and all([sign in SMALL for sign in word])


def is_great(word, least, most):
    return word != "" and word[0] in GREAT and is_small(word[1:], least, most)


def is_power(word):
    return is_great(word, 1, 11)


def is_name(word):
    return is_great(word, 1, 15)


def is_short(word):
    return is_great(word, 2, 2)


def is_shore(word):
    return is_small(word, 1, 8)
