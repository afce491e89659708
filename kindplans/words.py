"""The bytes of a text: its lines, their words, and what a name and a cost are."""

LINE_END = 10
BLANK = 32
LAST_SIGN = 126
MOST_SIGNS = 60
MOST_NAME_SIGNS = 8
MOST_COST_SIGNS = 3
LETTERS = "abcdefghijklmnopqrstuvwxyz"
DIGITS = "0123456789"
OTHER_SIGN = "?"


def cut_lines(row):
    lines = []
    line = []
    for byte in row:
        if byte == LINE_END:
            lines.append(line)
            line = []
        else:
            line.append(byte)
    if len(line) > 0:
        lines.append(line)
    return lines


def has_wrong_signs(line):
    if len(line) > MOST_SIGNS:
        return True
    return any([byte < BLANK or byte > LAST_SIGN for byte in line])


# A word with any other sign is no first word, no name and no cost, so one
# sign may stand for all of those: such a word is refused and never kept.
def sign_of(byte):
    if byte == BLANK:
        return " "
    if ord("a") <= byte <= ord("z"):
        return LETTERS[byte - ord("a")]
    if ord("0") <= byte <= ord("9"):
        return DIGITS[byte - ord("0")]
    return OTHER_SIGN


def cut_words(line):
    signs = "".join([sign_of(byte) for byte in line])
    return [word for word in signs.split(" ") if word != ""]


def is_name(word):
    if len(word) > MOST_NAME_SIGNS or word[0] not in LETTERS:
        return False
    return all([sign in LETTERS or sign in DIGITS for sign in word])


def is_cost(word):
    if len(word) > MOST_COST_SIGNS or word[0] == "0":
        return False
    return all([sign in DIGITS for sign in word])


def line_bytes(words):
    return [ord(sign) for sign in " ".join(words) + "\n"]
