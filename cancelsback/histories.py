"""Plans: histories for all versions, which stand in them by number."""

from itertools import product

from cancelsback.checks import is_integer, is_number, is_number_below, is_row_of, is_sequence, is_tuple_of, is_word
from cancelsback.checks import need_versions, same_paper
from cancelsback.errors import InvalidPlan, InvalidRow, InvalidSize
from cancelsback.merges import end_length, merge_numbers, texts_of_steps
from cancelsback.texts import product_by_turns, text_of

MOST_VERSIONS = 12
MOST_STEPS = 20


def need_many(many):
    """Raises where this is no number of versions of a plan."""
    if not is_integer(many) or many < 1 or many > MOST_VERSIONS:
        raise InvalidSize("many")


def plan_step(value, at, many):
    """The step as a tuple, None if it is none."""
    if is_row_of(value, 2) and is_word(value[0], "version") and is_number_below(value[1], many):
        return "version", value[1]
    numbers = merge_numbers(value, at)
    return None if numbers is None else ("merge",) + numbers


def steps_of_plan(many, value):
    """The plan as tuples, over a number of versions that is surely one."""
    if not is_sequence(value) or len(value) == 0 or len(value) > MOST_STEPS:
        raise InvalidPlan(-1)
    steps = []
    for at, part in enumerate(value):
        step = plan_step(part, at, many)
        if step is None:
            raise InvalidPlan(at)
        steps.append(step)
    return tuple(steps)


def need_plan(many, value):
    """The plan as tuples."""
    need_many(many)
    return steps_of_plan(many, value)


def struck_row(row):
    """The row with alike neighbours struck out as long as there are any."""
    left = []
    for number in row:
        if left and left[-1] == number:
            left.pop()
        else:
            left.append(number)
    return tuple(left)


def rows_of_steps(steps):
    """The row of each step."""
    rows = []
    for step in steps:
        if step[0] == "version":
            rows.append((step[1],))
        else:
            rows.append(struck_row(rows[step[2]] + rows[step[1]][::-1] + rows[step[3]]))
    return tuple(rows)


def plan_rows(many, plan):
    """The row of each step."""
    return rows_of_steps(need_plan(many, plan))


def row_counts(many, row):
    """How often each version stands at even places, less how often at odd ones."""
    counts = [0] * many
    for at, number in enumerate(row):
        counts[number] += 1 - 2 * (at % 2)
    return tuple(counts)


def counts_of_steps(many, steps):
    """The counts of each step's row."""
    return tuple([row_counts(many, row) for row in rows_of_steps(steps)])


def plan_counts(many, plan):
    """For each step and each version how often it stands in the row, the undone ones taken off."""
    return counts_of_steps(many, need_plan(many, plan))


def plan_texts(texts, plan):
    """The texts of all steps."""
    texts = need_versions(texts, 1, MOST_VERSIONS)
    steps = steps_of_plan(len(texts), plan)
    return texts_of_steps(steps, [texts[step[1]] if step[0] == "version" else None for step in steps])


def lengths_apart(many, steps, other):
    """Versions of one letter for which both plans go and outcomes of unlike counts are unlike."""
    counts = counts_of_steps(many, steps)
    others = counts_of_steps(many, other)
    version = 0
    while counts[-1][version] == others[-1][version]:
        version += 1
    # All steps get this length and once more the count of the one version: none may fall below 0.
    length = max([0] + [-row[version] for row in counts + others])
    return tuple([(0,) * (length + 1 if at == version else length) for at in range(many)])


def told_numbers(steps, places):
    """The numbers of versions that the steps at these places tell."""
    return [steps[at][1] for at in places if steps[at][0] == "version"]


def base_numbers(steps):
    """The numbers of versions that are bases; None if a base is a merge."""
    bases = [step[1] for step in steps if step[0] == "merge"]
    numbers = told_numbers(steps, bases)
    return numbers if len(numbers) == len(bases) else None


def side_numbers(steps):
    """The numbers of versions that are mine, yours or the outcome."""
    merges = [step for step in steps if step[0] == "merge"]
    sides = [step[2] for step in merges] + [step[3] for step in merges]
    return told_numbers(steps, sides + [len(steps) - 1])


def parted_bases(steps, other):
    """The numbers of versions that are bases in two parted plans, None if they are not parted."""
    mine, yours = base_numbers(steps), base_numbers(other)
    if mine is None or yours is None:
        return None
    sides = side_numbers(steps) + side_numbers(other)
    if any([number in sides for number in mine + yours]):
        return None
    return mine + yours


def parted_texts(many, bases):
    """Versions for which parted plans go and each outcome tells its whole row."""
    texts = []
    for number in range(many):
        if number in bases:
            texts.append((0,) * number)
        else:
            # Fillers on both sides outlast each base, so the longer a base, the fewer stay between two letters.
            texts.append((0,) * many + (number + 1,) + (0,) * many)
    return tuple(texts)


def plans_paper(many, plan, other):
    """Whether the outcomes are alike wherever both plans go, with versions where they are not."""
    steps = need_plan(many, plan)
    others = need_plan(many, other)
    one_row = rows_of_steps(steps)[-1]
    other_row = rows_of_steps(others)[-1]
    if one_row == other_row:
        return ("alike",)
    if row_counts(many, one_row) != row_counts(many, other_row):
        return "apart", lengths_apart(many, steps, others)
    bases = parted_bases(steps, others)
    if bases is None:
        return ("open",)
    return "apart", parted_texts(many, bases)


def row_product(texts, row):
    """The struck word that a row of versions makes."""
    return product_by_turns([texts[number] for number in row])


def is_struck_row(row):
    """Whether no two neighbours in it are alike."""
    return struck_row(row) == tuple(row)


def least_clash(texts):
    """The least struck row of three numbers, else of five, whose product is no text; None if there is none."""
    numbers = list(range(len(texts)))
    for row in product(numbers, numbers, numbers):
        if is_struck_row(row) and text_of(row_product(texts, row)) is None:
            return row
    for row in product(numbers, numbers, numbers, numbers, numbers):
        if is_struck_row(row) and text_of(row_product(texts, row)) is None:
            return row
    return None


def primitive_part(text):
    """The shortest text that makes this one when it is repeated."""
    for length in range(1, len(text)):
        if text[:length] * (len(text) // length) == text:
            return text[:length]
    return text


def times_at_front(block, text):
    """How many times the block stands at the beginning."""
    times = 0
    while text[times * len(block):(times + 1) * len(block)] == block:
        times += 1
    return times


def versions_form(texts):
    """Front, block, back and each version's times, of versions that surely have this form."""
    shortest = min(texts, key=len)
    longest = max(texts, key=len)
    if shortest == longest:
        return "block", shortest, (), (), (0,) * len(texts)
    at = len(shortest) - end_length(shortest, longest)
    block = primitive_part(longest[at:at + len(longest) - len(shortest)])
    front = shortest[:at]
    times = tuple([times_at_front(block, text[at:]) for text in texts])
    back = shortest[at + len(block) * times_at_front(block, shortest[at:]):]
    return "block", front, block, back, times


def rounds_of(texts):
    """The paper of versions that are surely so many texts."""
    row = least_clash(texts)
    if row is not None:
        return "clash", row
    return versions_form(texts)


def rounds_paper(texts):
    """The least short row whose product is no text, or else the form of the versions."""
    return rounds_of(need_versions(texts, 2, 4))


def rounds_hold(texts, value):
    """Whether any value is such a paper, with any short row whose product is no text."""
    texts = need_versions(texts, 2, 4)
    if is_tuple_of(value, 2) and is_word(value[0], "clash"):
        return is_clash_row(texts, value[1])
    return same_paper(value, rounds_of(texts))


def is_clash_row(texts, row):
    """Whether any value is a struck row of three or five numbers whose product is no text."""
    if not (is_tuple_of(row, 3) or is_tuple_of(row, 5)):
        return False
    if not all([is_number_below(number, len(texts)) for number in row]):
        return False
    return is_struck_row(row) and text_of(row_product(texts, row)) is None


def need_row(row, many):
    """The row of numbers of versions as a tuple."""
    if not is_sequence(row) or len(row) % 2 == 0:
        raise InvalidRow(-1)
    for at, number in enumerate(row):
        if not is_number_below(number, many):
            raise InvalidRow(at)
    return tuple(row)


def margin_pairs(texts, row):
    """The least pairs of margins with which the row's product is a text."""
    texts = need_versions(texts, 1, MOST_VERSIONS)
    word = row_product(texts, need_row(row, len(texts)))
    signs = [sign for _, sign in word]
    letters = tuple([letter for letter, _ in word])
    if 1 not in signs:
        # What is undone may be laid in parts: its end in front of the versions, the rest behind them.
        back_first = letters[::-1]
        return tuple(sorted([(back_first[at:], back_first[:at]) for at in range(len(letters) + 1)]))
    begin = signs.index(1)
    end = len(signs) - signs[::-1].index(1)
    if -1 in signs[begin:end]:
        return ()
    return ((letters[:begin][::-1], letters[end:][::-1]),)


def step_names(steps):
    """A name for each step: alike for steps that tell one version."""
    return [step if step[0] == "version" else ("merge", at) for at, step in enumerate(steps)]


def elder_fault(many, plan):
    """The first merge whose base is no elder of mine or of yours, None if there is none."""
    steps = need_plan(many, plan)
    names = step_names(steps)
    elders = []
    for at, step in enumerate(steps):
        known = {}
        if step[0] == "version":
            if step[1] != 0:
                known[("version", 0)] = True
        else:
            for side in step[2:]:
                if names[step[1]] != names[side] and names[step[1]] not in elders[side]:
                    return at
            for part in step[1:]:
                known[names[part]] = True
                for elder in elders[part]:
                    known[elder] = True
        elders.append(known)
    return None


def elder_plan(counts):
    """A plan that takes nothing back, whose outcome has these counts of versions 1, 2, .."""
    if not is_sequence(counts) or len(counts) < 1 or len(counts) > 5:
        raise InvalidSize("counts")
    if not all([is_number(count) for count in counts]) or sum(counts) > 9:
        raise InvalidSize("counts")
    plan = [("version", 0)]
    sides = []
    for at, count in enumerate(counts):
        if count > 0:
            sides = sides + [len(plan)] * count
            plan.append(("version", at + 1))
    for at, side in enumerate(sides):
        if at > 0:
            # The told versions stand ahead of all merges; the first of them is the first mine.
            mine = sides[0] if at == 1 else len(plan) - 1
            plan.append(("merge", 0, mine, side))
    return tuple(plan)
