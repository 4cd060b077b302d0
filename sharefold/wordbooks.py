"""Words, and the books in which they name one another."""

from sharefold.errors import InvalidBook, InvalidWord, TooMany
from sharefold.integers import is_between, is_integer
from sharefold.termshapes import GREATEST_NODE

MOST_MARKS = 400
MOST_WORDS = 2000


def is_mark(value, many):
    """Whether any value is a mark, where it may name so many words."""
    if not isinstance(value, tuple):
        return is_between(value, 0, GREATEST_NODE)
    if len(value) != 2 or not is_between(value[1], 0, many - 1):
        return False
    return value[0] == "over" or value[0] == "under"


def is_word(value, many):
    """Whether any value is a word, where it may name so many words."""
    if not isinstance(value, tuple) or len(value) < 1 or len(value) > MOST_MARKS:
        return False
    return all([is_mark(mark, many) for mark in value])


def is_book(value):
    """Whether any value is a book."""
    if not isinstance(value, tuple) or len(value) > MOST_WORDS:
        return False
    # As words ahead are unlike, two words are alike if and only if they are the same marks.
    known = {}
    for index, marks in enumerate(value):
        if not is_word(marks, index) or marks in known:
            return False
        known[marks] = index
    return True


def check_book(value):
    if not is_book(value):
        raise InvalidBook("not a book")


def check_index(value, book):
    if not is_between(value, 0, len(book) - 1):
        raise InvalidWord("not the index of a word of the book")


def word_added(book, marks):
    """The book with a word, at its end if it is not there, and the index of this word."""
    check_book(book)
    if not is_word(marks, len(book)):
        raise InvalidWord("not a word over the book")
    if marks in book:
        return book, book.index(marks)
    if len(book) == MOST_WORDS:
        raise TooMany(MOST_WORDS)
    return (*book, marks), len(book)


def needs_of(book, index):
    """The ascending tuple of the needs of a word."""
    check_book(book)
    check_index(index, book)
    return needs_in(book, index)


def needs_in(book, index):
    needed = {}
    for place in reversed(range(index + 1)):
        if place == index or place in needed:
            for mark in book[place]:
                if not is_integer(mark):
                    needed[mark[1]] = True
    return tuple(sorted(needed))


def same_word(book, index, other, place):
    """Whether words of two books are alike."""
    check_book(book)
    check_index(index, book)
    check_book(other)
    check_index(place, other)
    likeness = Likeness()
    return likeness.numbers(book, ())[index] == likeness.numbers(other, ())[place]


class Likeness:
    """Gives numbers to the words of books, the same ones to words that are alike.

    Numbers are kept by the words, which name numbers in the place of indices then.
    """

    def __init__(self):
        self.known = {}

    def numbers(self, book, ahead):
        """The list of the numbers of the words of a book, the first ones of which are told."""
        numbers = list(ahead)
        for marks in book[len(ahead):]:
            told = tuple([mark if is_integer(mark) else (mark[0], numbers[mark[1]]) for mark in marks])
            numbers.append(self.known.setdefault(told, len(self.known)))
        return numbers
