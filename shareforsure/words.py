"""Names and numbers, and the characters of which names are made."""

MOST_IN_A_WORD = 12


def is_letter(mark):
    """Whether a string of one character is a letter from a to z."""
    return "a" <= mark <= "z"


def is_digit(mark):
    """Whether a string of one character is a digit from 0 to 9."""
    return "0" <= mark <= "9"


def is_name(value):
    """Whether a value, which may be anything, is a name."""
    if not isinstance(value, str) or not 1 <= len(value) <= MOST_IN_A_WORD:
        return False
    return is_letter(value[0]) and all([is_letter(mark) or is_digit(mark) for mark in value])


def is_number(value):
    """Whether a value, which may be anything, is a number: an integer of at least 0, not True or False."""
    return isinstance(value, int) and not isinstance(value, bool) and value >= 0


def is_tuple_of(many, value):
    """Whether a value, which may be anything, is a tuple of so many members."""
    return isinstance(value, tuple) and len(value) == many


def is_worded(members, value):
    """Whether a value, which may be anything, is a tuple that begins with one of some words and has as many members.

    A dict tells for each of the words how many members these are, the word among them.
    """
    if not isinstance(value, tuple) or value == () or not isinstance(value[0], str):
        return False
    return value[0] in members and len(value) == members[value[0]]


def are_numbers(value, many):
    """Whether a value, which may be anything, is a tuple of so many numbers."""
    return is_tuple_of(many, value) and all([is_number(member) for member in value])
