"""The words of numbers from 0 to 701."""

SIGNS = "abcdefghijklmnopqrstuvwxyz"
MOST_NUMBER = 701


def word_of(number):
    ahead, last = divmod(number, len(SIGNS))
    if ahead == 0:
        return SIGNS[last]
    return SIGNS[ahead - 1] + SIGNS[last]


def number_of(word):
    """The number of a word of one or two characters."""
    number = 0
    for sign in word:
        number = number * len(SIGNS) + SIGNS.index(sign) + 1
    return number - 1
