"""Signs, names and numbers: what the words of a line are made of."""

DIGITS = "0123456789"
LETTERS = "abcdefghijklmnopqrstuvwxyz"
NO_SIGN = "?"

LONGEST_NAME = 12

# Every bound has fewer digits, so what a longer number is worth beyond this never matters.
EXACT_DIGITS = 3
BEYOND_EXACT = 1000

NO_NUMBER = -1


def sign_of(byte):
    if byte == 10:
        return "\n"
    if byte == 32:
        return " "
    if 48 <= byte <= 57:
        return DIGITS[byte - 48]
    if 97 <= byte <= 122:
        return LETTERS[byte - 97]
    return NO_SIGN


def signs_of(text):
    return "".join([sign_of(byte) for byte in text])


def is_name(word):
    return len(word) <= LONGEST_NAME and word.isalnum()


# Python reads no number of some thousand digits, but a text has room for one.
def number_of(word):
    if not word.isdigit():
        return NO_NUMBER
    if len(word) > 1 and word.startswith("0"):
        return NO_NUMBER
    if len(word) > EXACT_DIGITS:
        return BEYOND_EXACT
    return int(word)


def numbers_of(words):
    return [number_of(word) for word in words]


def all_numbers(words):
    return NO_NUMBER not in numbers_of(words)


def all_within(words, least, most):
    return all([least <= number <= most for number in numbers_of(words)])
