"""Live versions: told and merged texts, of which some are released to be bases."""

from cancelsback.checks import is_number_below, need_text
from cancelsback.errors import Refused
from cancelsback.fronts import least_ties
from cancelsback.merges import merged
from cancelsback.releases import lost_text


def unlike_ones(texts):
    """The texts, each once."""
    return tuple({text: True for text in texts})


class Live:
    """Versions by number, those of them that are bases, and the deeds that can be taken back or done again."""

    def __init__(self):
        self.texts = ()
        self.bases = ()
        self.deeds_done = []
        self.deeds_undone = []

    def become(self, texts, bases):
        """A deed: from now on these are the versions and the bases."""
        self.deeds_done.append((self.texts, self.bases))
        self.deeds_undone = []
        self.texts = texts
        self.bases = bases

    def need_version(self, number, name):
        """Raises where no version has this number."""
        if not is_number_below(number, len(self.texts)):
            raise Refused(name)

    def need_base(self, number):
        """Raises where no base has this number."""
        if not is_number_below(number, len(self.texts)) or number not in self.bases:
            raise Refused("base")

    def texts_of_bases(self, numbers):
        """The texts of these versions, each once."""
        return unlike_ones([self.texts[number] for number in numbers])

    def tell_version(self, text):
        """A version more; its number."""
        text = need_text(text, -1)
        self.become(self.texts + (text,), self.bases)
        return len(self.texts) - 1

    def merge_made(self, base, mine, yours):
        """What comes of these versions over a base is a version more; its number."""
        self.need_base(base)
        self.need_version(mine, "mine")
        self.need_version(yours, "yours")
        came = merged(self.texts[base], self.texts[mine], self.texts[yours])
        if came is None:
            raise Refused("clash")
        self.become(self.texts + (came,), self.bases)
        return len(self.texts) - 1

    def release_version(self, number):
        """From now on this version is a base."""
        self.need_version(number, "version")
        if number in self.bases:
            raise Refused("base")
        self.become(self.texts, tuple(sorted(self.bases + (number,))))

    def withdraw_base(self, number):
        """From now on this version is no base."""
        self.need_base(number)
        self.become(self.texts, tuple([base for base in self.bases if base != number]))

    def still_comes(self, text):
        """Whether the text comes over the bases' texts of the texts that are there."""
        text = need_text(text, -1)
        if not self.texts:
            return False
        net = least_ties(unlike_ones(self.texts), self.texts_of_bases(self.bases))
        return net.leads(text) is not None

    def lost_by(self, number):
        """The first text that still comes, and would not if this version were no base, or None."""
        self.need_base(number)
        fewer = self.texts_of_bases([base for base in self.bases if base != number])
        return lost_text(unlike_ones(self.texts), self.texts_of_bases(self.bases), fewer)

    def undo_deed(self):
        """Takes back the last deed that is not taken back; whether there was one."""
        if not self.deeds_done:
            return False
        self.deeds_undone.append((self.texts, self.bases))
        self.texts, self.bases = self.deeds_done.pop()
        return True

    def redo_deed(self):
        """Does again the deed that was taken back last; whether there was one."""
        if not self.deeds_undone:
            return False
        self.deeds_done.append((self.texts, self.bases))
        self.texts, self.bases = self.deeds_undone.pop()
        return True
