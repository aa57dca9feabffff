"""Chains: texts and bases by turns, merged over one base after another."""

from cancelsback.checks import first_wrong_text, is_number_below, is_sequence
from cancelsback.errors import InvalidChain, InvalidIndex, Refused
from cancelsback.merges import merged
from cancelsback.texts import product_by_turns, text_of

MOST_TEXTS = 15


def need_chain(chain):
    """The chain as a tuple of texts."""
    if not is_sequence(chain) or len(chain) % 2 == 0 or len(chain) > MOST_TEXTS:
        raise InvalidChain(-1)
    at = first_wrong_text(chain, True)
    if at is not None:
        raise InvalidChain(at)
    return tuple([tuple(text) for text in chain])


def text_of_block(chain):
    """The text of a chain that is surely one, or None."""
    return text_of(product_by_turns(chain))


def merged_over(chain, place):
    """What comes over the base at this place, None if it is not clean."""
    return merged(chain[place], chain[place - 1], chain[place + 1])


def chain_text(chain):
    """The text that the first, the second undone, the third, .. are, or None."""
    return text_of_block(need_chain(chain))


def clean_bases(chain):
    """The places of the bases over which their neighbours merge, ascending."""
    chain = need_chain(chain)
    return tuple([place for place in range(1, len(chain), 2) if merged_over(chain, place) is not None])


def merged_chain(chain, place):
    """The chain with what comes in the place of the base and its neighbours."""
    chain = need_chain(chain)
    if not is_number_below(place, len(chain)) or place % 2 == 0:
        raise InvalidIndex(-1)
    came = merged_over(chain, place)
    if came is None:
        raise Refused(-1)
    return chain[:place - 1] + (came,) + chain[place + 2:]


def least_chain(chain):
    """A chain of the fewest texts that comes of this one by merges."""
    chain = need_chain(chain)
    # For each even place the shortest chain to it: blocks that have a text come to it by themselves.
    shortest = {}
    for end in range(0, len(chain), 2):
        found = []
        for begin in range(0, end + 1, 2):
            text = text_of_block(chain[begin:end + 1])
            if text is not None:
                ahead = shortest[begin - 2] + (chain[begin - 1],) if begin > 0 else ()
                found.append(ahead + (text,))
        shortest[end] = min(found, key=len)
    return shortest[len(chain) - 1]
