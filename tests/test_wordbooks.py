"""Words and books: [12] and [53]."""

import random
import unittest

from sharefold.errors import InvalidBook, InvalidWord, TooMany
from sharefold.wordbooks import is_book, needs_of, same_word, word_added
from tests.samples import ODD_VALUES

BOOK = ((0,), (1,), (0, ("over", 1), 2), (("under", 2), ("over", 0)))


def numbers(many):
    """So many unlike words of two marks."""
    return tuple([(place // 600, place % 600) for place in range(many)])


def unfolded(book, index):
    """A word as a tuple of all that it is, what it names in the places of their indices."""
    return tuple([mark if isinstance(mark, int) else (mark[0], unfolded(book, mark[1])) for mark in book[index]])


def random_book(dice, many):
    book = []
    while len(book) < many:
        word = tuple([dice.choice([dice.randrange(2), (dice.choice(["over", "under"]), dice.randrange(len(book) or 1))])
                      for _ in range(dice.randrange(1, 4))])
        if word not in book and (book or all(isinstance(mark, int) for mark in word)):
            book.append(word)
    return tuple(book)


class IsBookTest(unittest.TestCase):

    def test_books(self):
        for book in [(), ((0,),), ((599,), (0, 599)), BOOK, ((1,), (("over", 0),), (("under", 0),), (("over", 1), 1))]:
            self.assertIs(is_book(book), True, book)

    def test_no_books(self):
        for value in ODD_VALUES:
            if value not in [(), ((0,),)]:
                self.assertIs(is_book(value), False, value)
        for value in [((),), ((600,),), ((-1,),), ((True,),), ((0,), (False,)), ((0,), (1,), (0,)), [(0,)], ([0],),
                      ((0,), [1]), ((0,), (("over", 1),)), ((0,), (("over", -1),)), ((("over", 0),),),
                      ((0,), (("over", False),)), ((0,), (("above", 0),)), ((0,), (["over", 0],)), ((0,), (("over",),)),
                      ((0,), (("over", 0, 0),)), ((0,), (("over", "0"),)), ((0,), ((0, 0),)), ((0,), (None,)), (0,),
                      ((0,), (("over", 0),), (("over", 0),)), ((0,), (("over", ("over", 0)),)), ("a",), (("a",),)]:
            self.assertIs(is_book(value), False, value)

    def test_words_of_400_marks_and_401(self):
        self.assertIs(is_book(((5,) * 400,)), True)
        self.assertIs(is_book(((5,) * 401,)), False)
        self.assertIs(is_book(((0,), (("over", 0),) * 400)), True)
        self.assertIs(is_book(((0,), (("over", 0),) * 401)), False)

    def test_2000_words_and_one_more(self):
        self.assertIs(is_book(numbers(2000)), True)
        self.assertIs(is_book(numbers(2001)), False)


class WordsTest(unittest.TestCase):

    def test_words_added(self):
        self.assertEqual(word_added((), (3,)), (((3,),), 0))
        self.assertEqual(word_added(BOOK, (("over", 3), 0)), (BOOK + ((("over", 3), 0),), 4))
        for index, word in enumerate(BOOK):
            self.assertEqual(word_added(BOOK, word), (BOOK, index))

    def test_a_word_too_many(self):
        book = numbers(1999)
        full, index = word_added(book, (599,))
        self.assertEqual((len(full), index), (2000, 1999))
        self.assertEqual(word_added(full, (0, 5)), (full, 5))
        with self.assertRaises(TooMany) as caught:
            word_added(full, (598,))
        self.assertEqual(caught.exception.limit, 2000)
        self.assertRaises(InvalidWord, word_added, full, (600,))

    def test_needs(self):
        self.assertEqual([needs_of(BOOK, index) for index in range(4)], [(), (), (1,), (0, 1, 2)])
        chain = ((0,),) + tuple([(("over", index),) for index in range(1999)])
        self.assertEqual(needs_of(chain, 1999), tuple(range(1999)))
        book = ((0,), (1,), (("over", 0),), (2,), (("under", 2), 4))
        self.assertEqual(needs_of(book, 4), (0, 2))

    def test_words_alike(self):
        other = ((1,), (0, ("over", 0), 2), (0,), (("under", 1), ("over", 2)), (("over", 1), ("over", 2)))
        self.assertEqual([[same_word(BOOK, index, other, place) for place in range(5)] for index in range(4)],
                         [[False, False, True, False, False], [True, False, False, False, False],
                          [False, True, False, False, False], [False, False, False, True, False]])
        self.assertIs(same_word(BOOK, 2, BOOK, 2), True)
        # The same marks that name unlike words.
        self.assertIs(same_word(((0,), (("over", 0),)), 1, ((1,), (("over", 0),)), 1), False)
        self.assertIs(same_word(((0, 1),), 0, ((0,),), 0), False)
        self.assertIs(same_word(((0,), (1,)), 1, ((1,), (0,)), 1), False)

    def test_words_alike_in_long_chains(self):
        chain = ((0,),) + tuple([(("over", index),) for index in range(1999)])
        moved = ((1,), (0,)) + tuple([(("over", index),) for index in range(1, 1999)])
        self.assertIs(same_word(chain, 1998, moved, 1999), True)
        self.assertIs(same_word(chain, 1999, moved, 1999), False)

    def test_like_words_told_whole(self):
        dice = random.Random(33)
        for _ in range(40):
            book, other = random_book(dice, 8), random_book(dice, 8)
            self.assertIs(is_book(book), True)
            for index in range(8):
                for place in range(8):
                    self.assertIs(same_word(book, index, other, place), unfolded(book, index) == unfolded(other, place))


class WrongArgumentsTest(unittest.TestCase):

    def test_no_book(self):
        for value in ODD_VALUES + [[(0,)]]:
            if value not in [(), ((0,),)]:
                self.assertRaises(InvalidBook, word_added, value, None)
                self.assertRaises(InvalidBook, needs_of, value, -1)
                self.assertRaises(InvalidBook, same_word, value, -1, None, -1)
                self.assertRaises(InvalidBook, same_word, BOOK, 0, value, -1)

    def test_no_word(self):
        for value in ODD_VALUES + [(("over", 4),), (0, 600), (("over", True),), [0], (0,) * 401, ()]:
            if value != (0,):
                self.assertRaises(InvalidWord, word_added, BOOK, value)

    def test_no_index(self):
        for value in [-1, 4, True, False, None, "0", (0,), 10 ** 100]:
            self.assertRaises(InvalidWord, needs_of, BOOK, value)
            self.assertRaises(InvalidWord, same_word, BOOK, value, "no book", 0)
            self.assertRaises(InvalidWord, same_word, BOOK, 0, BOOK, value)
        self.assertRaises(InvalidWord, needs_of, (), 0)


if __name__ == "__main__":
    unittest.main()
