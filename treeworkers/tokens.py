"""Parts a text, which is a list of bytes, into tokens.

A token is a pair: its kind and its value. The kind of a sign or a word is what it is written like;
the other kinds are great, small, number, and end behind the last token.
"""

from treeworkers.errors import need

BLANKS = (32, 10)

SIGNS = {
    59: ";", 58: ":", 123: "{", 125: "}", 40: "(", 41: ")", 91: "[", 93: "]",
    44: ",", 46: ".", 61: "=", 60: "<", 62: ">", 43: "+", 45: "-", 42: "*",
    47: "/", 37: "mod", 38: "&", 124: "|", 33: "!", 63: "?", 35: "#",
}

WORDS = ("if", "then", "else")

DIGITS = "0123456789"
GREAT_LETTERS = "ABCDEFGHIJKLMNOPQRSTUVWXYZ"
SMALL_LETTERS = "abcdefghijklmnopqrstuvwxyz"

MOST_NAME_BYTES = 12
MOST_DIGITS = 18


def is_digit(byte):
    return 48 <= byte <= 57


def is_great_letter(byte):
    return 65 <= byte <= 90


def is_small_letter(byte):
    return 97 <= byte <= 122


def is_letter(byte):
    return is_great_letter(byte) or is_small_letter(byte)


def is_letter_or_digit(byte):
    return is_letter(byte) or is_digit(byte)


def written(byte):
    if is_digit(byte):
        return DIGITS[byte - 48]
    if is_great_letter(byte):
        return GREAT_LETTERS[byte - 65]
    return SMALL_LETTERS[byte - 97]


def end_of_digits(text, start):
    end = start
    while end < len(text) and is_digit(text[end]):
        end += 1
    return end


def end_of_letters_and_digits(text, start):
    end = start
    while end < len(text) and is_letter_or_digit(text[end]):
        end += 1
    return end


def number_token(digits):
    need(len(digits) <= MOST_DIGITS)
    value = 0
    for byte in digits:
        value = value * 10 + byte - 48
    return ("number", value)


def name_token(run):
    need(len(run) <= MOST_NAME_BYTES)
    name = "".join([written(byte) for byte in run])
    if name in WORDS:
        return (name, 0)
    if is_great_letter(run[0]):
        return ("great", name)
    return ("small", name)


def split_tokens(text):
    tokens = []
    start = 0
    while start < len(text):
        byte = text[start]
        end = start + 1
        if is_digit(byte):
            end = end_of_digits(text, start)
            tokens.append(number_token(text[start:end]))
        elif is_letter(byte):
            end = end_of_letters_and_digits(text, start)
            tokens.append(name_token(text[start:end]))
        elif byte not in BLANKS:
            need(byte in SIGNS)
            tokens.append((SIGNS[byte], 0))
        start = end
    tokens.append(("end", 0))
    return tokens
