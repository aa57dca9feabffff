"""A desk: live versions by commands in text."""

from cancelsback.errors import InvalidCommand
from cancelsback.live import Live

MOST_FIGURES = 9
FIGURES = "0123456789"


def number_or_none(word):
    """The number that the word tells, None if it tells none."""
    if word == "" or len(word) > MOST_FIGURES or not all([sign in FIGURES for sign in word]):
        return None
    if word[0] == "0" and word != "0":
        return None
    return int(word)


def need_numbers(words):
    """The numbers that the words tell."""
    numbers = [number_or_none(word) for word in words]
    if None in numbers:
        raise InvalidCommand()
    return tuple(numbers)


def need_text_told(words):
    """The letters that the words, one or more, tell."""
    if words == ["empty"]:
        return ()
    return need_numbers(words)


def told_text(text):
    """The text as it is told."""
    return " ".join([str(letter) for letter in text]) if text else "empty"


def told_several(words):
    """Several words as they are told."""
    return ", ".join(words) if words else "none"


def told_answer(answer):
    """Whether it is so, as it is told."""
    return "yes" if answer else "no"


class Desk:
    """Does commands on live versions, once they are started."""

    def __init__(self):
        self.live = None

    def say(self, command):
        """Does a command and returns what it tells."""
        if not isinstance(command, str):
            raise InvalidCommand()
        words = command.split(" ")
        if words == ["start"]:
            self.live = Live()
            return "none"
        if self.live is None:
            raise InvalidCommand()
        if len(words) == 1:
            return self.say_alone(words[0])
        if words[0] in ("tell", "comes"):
            return self.say_text(words[0], need_text_told(words[1:]))
        return self.say_numbers(words[0], words[1:])

    def say_alone(self, word):
        """Does a command of one word."""
        if word == "undo":
            return told_answer(self.live.undo_deed())
        if word == "redo":
            return told_answer(self.live.redo_deed())
        if word == "list":
            return told_several([told_text(text) for text in self.live.texts])
        if word == "bases":
            return told_several([str(number) for number in self.live.bases])
        raise InvalidCommand()

    def say_text(self, word, text):
        """Does a command that is given a text."""
        if word == "tell":
            return str(self.live.tell_version(text))
        return told_answer(self.live.still_comes(text))

    def say_numbers(self, word, words):
        """Does a command that is given numbers of versions."""
        if len(words) != (3 if word == "merge" else 1) or word not in ("merge", "release", "withdraw", "lost"):
            raise InvalidCommand()
        numbers = need_numbers(words)
        if word == "merge":
            return str(self.live.merge_made(*numbers))
        if word == "release":
            self.live.release_version(*numbers)
            return "done"
        if word == "withdraw":
            self.live.withdraw_base(*numbers)
            return "done"
        lost = self.live.lost_by(*numbers)
        return "none" if lost is None else told_text(lost)
