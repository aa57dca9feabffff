"""Texts as words, and words as texts."""

from cancelsback.checks import need_text
from cancelsback.words import need_word, struck, undone


def word_of(text):
    """The word of a text that is surely one."""
    return tuple([(letter, 1) for letter in text])


def text_of(word):
    """The text that a struck word is, None if it is none."""
    if any([sign < 0 for _, sign in word]):
        return None
    return tuple([letter for letter, _ in word])


def product_by_turns(texts):
    """The struck word of the first text, the second one undone, the third one, and so on."""
    word = []
    for at, text in enumerate(texts):
        part = word_of(text)
        word.extend(undone(part) if at % 2 else part)
    return struck(word)


def text_word(text):
    """The text as a word, all signs 1."""
    return word_of(need_text(text, -1))


def word_text(word):
    """The text that the struck word is, or None."""
    return text_of(struck(need_word(word, -1)))
