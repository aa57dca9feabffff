"""How far apart a text can come: the greatest distance at which it comes, and why at no greater one."""

from cancelsback.checks import is_integer, is_text_paper, is_tuple_of, is_word, need_text, need_told
from cancelsback.distances import reach_of_merge
from cancelsback.linkings import FrontClasses, LinkedWeb, are_fair, are_links, links_of
from cancelsback.merges import merge_numbers, merged
from cancelsback.tellings import RestTelling


def reach_along(texts, links, text):
    """The greatest distance at which the text leads along the links; -1 for none, None for every one."""
    if text in texts:
        return None
    for distance in sorted(set([link[2] for link in links]))[::-1]:
        if LinkedWeb(texts, links, distance).leads(text):
            return distance
    return -1


def text_reach(texts, text):
    """The greatest distance at which the text comes; -1 for none, None for every one."""
    texts, text = need_told(texts), need_text(text, -1)
    return reach_along(texts, links_of(texts), text)


def reach_paper(texts, text):
    """The reach, a history whose merges go at it, and fair links along which the text leads at no greater one."""
    texts, text = need_told(texts), need_text(text, -1)
    links = links_of(texts)
    reach = reach_along(texts, links, text)
    if reach is None:
        return None, (("told", text),), ()
    if reach == -1:
        return -1, (), links
    joins = [(one, other) for one, other, distance in links if distance >= reach]
    return reach, RestTelling(texts, joins).come_to(text), links


def comes_so(texts, text, reach, value):
    """Whether any value is a history that tells just told versions, whose merges go at the reach, the text last."""
    if not isinstance(value, tuple) or value == ():
        return False
    came = []
    for at, step in enumerate(value):
        if is_tuple_of(step, 2) and is_word(step[0], "told") and is_text_paper(step[1]) and step[1] in texts:
            came.append(step[1])
        elif isinstance(step, tuple) and merge_numbers(step, at) is not None:
            base, mine, yours = [came[number] for number in step[1:]]
            farthest = reach_of_merge(base, mine, yours)
            if farthest is not None and (reach is None or farthest < reach):
                return False
            came.append(merged(base, mine, yours))
        else:
            return False
    return came[-1] == text


def reach_holds(texts, text, value):
    """Whether any value is such a triple of reach, history and links."""
    texts, text = need_told(texts), need_text(text, -1)
    if not is_tuple_of(value, 3):
        return False
    reach, history, links = value
    if reach is not None and (not is_integer(reach) or reach < -1):
        return False
    if reach == -1:
        if history != () or not isinstance(history, tuple):
            return False
    elif not comes_so(texts, text, reach, history):
        return False
    if reach is None:
        return isinstance(links, tuple) and links == ()
    if not are_links(FrontClasses(texts), links) or not are_fair(texts, links):
        return False
    return not LinkedWeb(texts, links, reach + 1).leads(text)
