"""What comes along the ties of a front net, with the fronts reached by a text taken together as one state."""

from cancelsback.rings import MoveWeb


def first_state(net):
    """The fronts that no letters lead to, ascending."""
    return tuple(sorted(net.spread({0: 0})))


def next_state(net, state, letter):
    """The fronts to which the letter leads from these, ascending."""
    return tuple(sorted(net.spread(net.move({place: 0 for place in state}, letter))))


def state_behind(net, state, text):
    """The fronts to which the text leads from these, ascending."""
    for letter in text:
        state = next_state(net, state, letter)
    return state


def is_end_state(net, state):
    """Whether a version is among the fronts."""
    return any([end in state for end in net.ends])


def web_of_states(net):
    """The states that texts lead to, by number, of which each leads on to a version; empty if nothing comes."""
    states = [first_state(net)]
    numbers = {states[0]: 0}
    moves = []
    while len(moves) < len(states):
        moved = {}
        for letter in net.letters:
            state = next_state(net, states[len(moves)], letter)
            if state:
                if state not in numbers:
                    numbers[state] = len(states)
                    states.append(state)
                moved[letter] = numbers[state]
        moves.append(moved)
    are_ends = [is_end_state(net, state) for state in states]
    useful = useful_states(moves, are_ends)
    return MoveWeb([{letter: row[letter] for letter in row if useful[row[letter]]} for row in moves], are_ends)


def useful_states(moves, are_ends):
    """For each state whether it leads on to an end."""
    useful = list(are_ends)
    grown = True
    while grown:
        grown = False
        for at, row in enumerate(moves):
            if not useful[at] and any([useful[row[letter]] for letter in row]):
                useful[at] = True
                grown = True
    return useful


def comes_always(net, head, ring, tail):
    """Whether head, ring any number of times and tail come each time."""
    state = state_behind(net, first_state(net), head)
    seen = set()
    while state not in seen:
        if not is_end_state(net, state_behind(net, state, tail)):
            return False
        seen.add(state)
        state = state_behind(net, state, ring)
    return True


def first_unlike(net, other):
    """The first text that comes along the one net and not along the other, None if there is none."""
    begin = (first_state(net), first_state(other))
    seen = set()
    seen.add(begin)
    waiting = [(begin, ())]
    at = 0
    while at < len(waiting):
        states, text = waiting[at]
        at += 1
        if is_end_state(net, states[0]) and not is_end_state(other, states[1]):
            return text
        for letter in net.letters:
            pair = (next_state(net, states[0], letter), next_state(other, states[1], letter))
            if pair[0] and pair not in seen:
                seen.add(pair)
                waiting.append((pair, text + (letter,)))
    return None
