"""Promises [5] and [6]: texts, words, what is struck out."""

import random
from itertools import product

from cancelsback.errors import InvalidText, InvalidWord
from cancelsback.texts import text_word, word_text
from cancelsback.words import join_words, strike_out, strike_pairs, strikes_hold, undo_word
from tests.support import Case, STRANGE, texts_to

A, B = (0, 1), (1, 1)
A_UNDONE, B_UNDONE = (0, -1), (1, -1)
LETTERS = (A, B, A_UNDONE, B_UNDONE)
SMALL = [word for many in range(6) for word in product(LETTERS, repeat=many)]


def struck_in_some_order(word, generator):
    """Strikes out neighbours taken at random; (the word, how many pairs)."""
    word = list(word)
    many = 0
    while True:
        places = [at for at in range(len(word) - 1) if word[at][0] == word[at + 1][0] and word[at][1] != word[at + 1][1]]
        if not places:
            return tuple(word), many
        at = generator.choice(places)
        del word[at:at + 2]
        many += 1


class WordsTest(Case):

    def test_empty_ones(self):
        self.assertEqual(strike_out(()), ())
        self.assertEqual(undo_word([]), ())
        self.assertEqual(join_words((), ()), ())
        self.assertEqual(strike_pairs(()), ())
        self.assertEqual(text_word(()), ())
        self.assertEqual(word_text(()), ())
        self.assertIs(strikes_hold((), ()), True)
        self.assertIs(strikes_hold((), []), False)

    def test_strike_out(self):
        self.assertEqual(strike_out((A, B, B_UNDONE, A_UNDONE, A)), (A,))
        self.assertEqual(strike_out((A_UNDONE, A, B)), (B,))
        self.assertEqual(strike_out((A, B_UNDONE)), (A, B_UNDONE))
        self.assertEqual(strike_out((A, A)), (A, A))

    def test_whatever_is_struck_first_the_same_is_left(self):
        generator = random.Random(6)
        words = SMALL + [tuple(generator.choice(LETTERS) for _ in range(40)) for _ in range(50)]
        for word in words:
            left, many = struck_in_some_order(word, generator)
            self.assertEqual(strike_out(word), left)
            self.assertEqual(len(strike_pairs(word)), many)

    def test_undo_word(self):
        self.assertEqual(undo_word((A, B, B_UNDONE)), (B, B_UNDONE, A_UNDONE))
        for word in SMALL:
            self.assertEqual(undo_word(undo_word(word)), word)
            self.assertEqual(join_words(word, undo_word(word)), ())

    def test_join_words(self):
        self.assertEqual(join_words((A, B), (B_UNDONE, B, B)), (A, B, B))
        for one in SMALL[:85]:
            for other in SMALL[:85]:
                self.assertEqual(join_words(one, other), strike_out(one + other))

    def test_papers_that_are_told_hold(self):
        for word in SMALL:
            pairs = strike_pairs(word)
            self.assertEqual(pairs, tuple(sorted(pairs)))
            self.assertIs(strikes_hold(word, pairs), True)

    def test_exactly_the_right_papers_hold(self):
        for word in [word for word in SMALL if len(word) == 4]:
            pairs = [(i, j) for i in range(4) for j in range(i + 1, 4)]
            for many in range(3):
                for value in product(pairs, repeat=many):
                    self.assertIs(strikes_hold(word, value), self.holds_by_words(word, value), (word, value))

    def test_pairs_of_any_numbers(self):
        pairs = list(product(range(-3, 4), repeat=2))
        for word in ((A, A_UNDONE), (A, A_UNDONE, A), (A, B, B_UNDONE), (B, A, A_UNDONE)):
            for many in range(3):
                for value in product(pairs, repeat=many):
                    right = all(0 <= begin < end < len(word) for begin, end in value)
                    self.assertIs(strikes_hold(word, value), right and self.holds_by_words(word, value), (word, value))

    def holds_by_words(self, word, value):
        places = [place for pair in value for place in pair]
        if list(value) != sorted(value) or len(set(places)) < len(places):
            return False
        for begin, end in value:
            if word[begin] != (word[end][0], -word[end][1]):
                return False
            for between in range(begin + 1, end):
                if not any(begin < low and high < end and between in (low, high) for low, high in value):
                    return False
        left = tuple(pair for at, pair in enumerate(word) if at not in places)
        return strike_out(left) == left

    def test_papers_changed_at_one_place(self):
        word = (A, B, B_UNDONE, A_UNDONE, A)
        self.assertIs(strikes_hold(word, ((0, 3), (1, 2))), True)
        self.assertIs(strikes_hold(word, ((1, 2), (3, 4))), True)
        for value in (((1, 2), (0, 3)), ((0, 3),), ((1, 2),), (), ((0, 3), (1, 2), (1, 2)), ((0, 3), (2, 1)),
                      [(0, 3), (1, 2)], ((0, 3), [1, 2]), ((0, 3), (True, 2)), ((0, 3), (1, 2, 2)), ((0, 3), (1, 5)),
                      ((0, 3), (-4, 2)), ((0, 3), (1, 2), (4, 4)), ((0, 3), None), ((0, 3), ("1", 2))):
            self.assertIs(strikes_hold(word, value), False, value)
        for value in STRANGE:
            self.assertIs(strikes_hold(word, value), False, value)

    def test_a_bool_is_no_place(self):
        word = (B, A, A_UNDONE)
        self.assertIs(strikes_hold(word, ((1, 2),)), True)
        self.assertIs(strikes_hold(word, ((True, 2),)), False)
        self.assertIs(strikes_hold((A, A_UNDONE), ((0, 1),)), True)
        self.assertIs(strikes_hold((A, A_UNDONE), ((0, True),)), False)

    def test_no_place_stands_in_two_pairs(self):
        self.assertIs(strikes_hold((A, A_UNDONE, A), ((0, 1),)), True)
        self.assertIs(strikes_hold((A, A_UNDONE, A), ((0, 1), (1, 2))), False)
        self.assertIs(strikes_hold((A, B, B_UNDONE, A, A_UNDONE), ((0, 4), (1, 2), (3, 4))), False)

    def test_texts_as_words(self):
        self.assertEqual(text_word([0, 99, 5]), ((0, 1), (99, 1), (5, 1)))
        self.assertEqual(word_text((A, B, B_UNDONE)), (0,))
        self.assertIsNone(word_text((A, B_UNDONE)))
        for text in texts_to(4, 3):
            self.assertEqual(word_text(text_word(text)), text)
        for word in SMALL:
            positive = all(sign == 1 for _, sign in strike_out(word))
            self.assertEqual(word_text(word), tuple(letter for letter, _ in strike_out(word)) if positive else None)

    def test_wrong_words(self):
        wrong = (None, 3, True, "a", (0,), ((0,),), ((0, 0),), ((0, 2),), ((0, True),), ((True, 1),), ((100, 1),),
                 ((-1, 1),), (("a", 1),), ((0, 1, 1),), (A, None), [A, "b"], {}, ((0, "1"),))
        for word in wrong:
            for function in (strike_out, undo_word, strike_pairs, word_text):
                self.refuses(InvalidWord, -1, function, word)
            self.refuses(InvalidWord, -1, strikes_hold, word, ())
            self.refuses(InvalidWord, 0, join_words, word, word)
            self.refuses(InvalidWord, 1, join_words, (A,), word)

    def test_wrong_texts(self):
        for text in (None, 3, True, "a", (True,), (100,), (-1,), ("a",), ((),), (0, None), (1, [2])):
            self.refuses(InvalidText, -1, text_word, text)

    def test_lists_stand_for_tuples(self):
        self.assertEqual(strike_out([[0, 1], (1, 1), [1, -1]]), (A,))
        self.assertEqual(join_words([[0, 1]], [[0, -1]]), ())
        self.assertIs(strikes_hold([[0, 1], [0, -1]], ((0, 1),)), True)
