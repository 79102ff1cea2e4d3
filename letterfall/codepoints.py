"""Which numbers are code points of a text, and which lists of numbers are a text."""

MOST_CODE_POINT = 1114111
FIRST_SURROGATE = 55296
LAST_SURROGATE = 57343
MOST_CHARACTERS = 65536


def is_code_point(number):
    if FIRST_SURROGATE <= number <= LAST_SURROGATE:
        return False
    return 0 <= number <= MOST_CODE_POINT


def is_text(numbers):
    return len(numbers) <= MOST_CHARACTERS and all([is_code_point(number) for number in numbers])
