"""Rows of bytes, as lists of whole numbers, and what a message's form asks of them."""

LINE_FEED = 10
CARRIAGE_RETURN = 13
BLANK = 32
COLON = 58
SEMICOLON = 59

ZERO = 48
NINE = 57
WORD_SIGNS = (33, 37, 39, 42, 43, 45, 46, 95, 96, 126)


def octets_of(text):
    return [ord(sign) for sign in text]


def is_digit(octet):
    return ZERO <= octet <= NINE


def is_letter(octet):
    return 65 <= octet <= 90 or 97 <= octet <= 122


def is_word_octet(octet):
    return is_letter(octet) or is_digit(octet) or octet in WORD_SIGNS


def is_word(row):
    return len(row) > 0 and all([is_word_octet(octet) for octet in row])


def is_visible(row):
    return len(row) > 0 and all([33 <= octet <= 126 for octet in row])


def is_number(row, most_digits):
    return 1 <= len(row) <= most_digits and all([is_digit(octet) for octet in row])


def number_of(digits):
    number = 0
    for digit in digits:
        number = 10 * number + digit - ZERO
    return number


def begins_with(row, start):
    return row[:len(start)] == start


def split_at(row, separator):
    parts = []
    start = 0
    for place, octet in enumerate(row):
        if octet == separator:
            parts.append(row[start:place])
            start = place + 1
    parts.append(row[start:])
    return parts
