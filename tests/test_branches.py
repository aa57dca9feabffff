"""Promises [29] and [30]: branches, shortest branches, weighed webs."""

import random
from itertools import product

from cancelsback.branches import branch_holds, branch_paper, branch_text, shortest_branch
from cancelsback.chains import chain_text
from cancelsback.coming import can_come
from cancelsback.errors import InvalidDeeds, InvalidIndex, InvalidText, InvalidTexts, Refused
from cancelsback.merges import merge_texts
from tests.support import Case, STRANGE, random_lot, texts_to

RINGS = [(1, 1, 1, 1), (1, 2, 1), (1, 2, 2, 1)]


def behind(texts, step, branch):
    side, base, other = step
    if side == "front":
        return merge_texts(texts[base], texts[other], branch)
    return merge_texts(texts[base], branch, texts[other])


def steps_of(many):
    return [(side, base, other) for side in ("front", "back") for base in range(many) for other in range(many)]


def distances(texts, starts, length):
    """For each text that is reached by texts of at most this length the fewest steps met."""
    found = {texts[start]: 0 for start in starts}
    waiting = list(found)
    for branch in waiting:
        for step in steps_of(len(texts)):
            came = behind(texts, step, branch)
            if came is not None and came not in found and len(came) <= length:
                found[came] = found[branch] + 1
                waiting.append(came)
    return found


def weights_from(web, text, begins):
    """For each place to which the text leads from weighed places its least weight, by the web's plain tuples."""
    weights = dict(begins)
    for letter in text:
        reached = {}
        for begin, other, end, weight in web[2]:
            if other == letter and begin in weights:
                reached[end] = min(reached.get(end, weights[begin] + weight), weights[begin] + weight)
        weights = reached
    return weights


def end_weight(web, text, begins):
    ends = dict(web[1])
    reached = weights_from(web, text, begins)
    return min([reached[place] + ends[place] for place in reached if place in ends], default=None)


def places_of(web):
    return {place for place, _ in web[0] + web[1]} | {tie[0] for tie in web[2]} | {tie[2] for tie in web[2]}


def keeps(web, texts):
    """Whether the web keeps the changes, by the words of the promise."""
    for one, other in product(texts, repeat=2):
        front = max(at for at in range(min(len(one), len(other)) + 1) if one[:at] == other[:at])
        back = max(at for at in range(min(len(one), len(other)) + 1) if one[len(one) - at:] == other[len(other) - at:])
        for place in places_of(web):
            weight = end_weight(web, one[front:], {place: 0})
            twin = end_weight(web, other[front:], {place: 0})
            if weight is not None and (twin is None or twin > weight + 1):
                return False
        weights = weights_from(web, one[:len(one) - back], dict(web[0]))
        twins = weights_from(web, other[:len(other) - back], dict(web[0]))
        if any(place not in twins or twins[place] > weights[place] + 1 for place in weights):
            return False
    return True


def random_question(generator, length=4):
    letters = generator.choice((1, 2, 2, 3))
    texts = random_lot(generator, generator.randint(1, 3), length, letters)
    return texts, generator.randrange(len(texts)), letters


class BranchTest(Case):

    def test_texts(self):
        texts = [(1, 2), (1, 3), (4, 2)]
        self.assertEqual(branch_text(texts, 0, []), (1, 2))
        self.assertEqual(branch_text(texts, 0, [["front", 0, 2]]), (4, 2))
        self.assertEqual(branch_text(texts, 0, (("front", 0, 2), ("back", 0, 1))), (4, 3))
        self.assertEqual(branch_text(texts, 2, (("back", 0, 1), ("front", 1, 1), ("back", 2, 2))), (4, 3))
        self.assertEqual(branch_text([(), (5,)], 0, [("front", 0, 1)] * 60), (5,) * 60)

    def test_against_merges(self):
        generator = random.Random(291)
        for _ in range(300):
            texts, start, _ = random_question(generator)
            branch = texts[start]
            steps = []
            for _ in range(5):
                step = generator.choice(steps_of(len(texts)))
                came = behind(texts, step, branch)
                if came is None:
                    self.refuses(Refused, len(steps), branch_text, texts, start, steps + [step, step])
                else:
                    steps.append(step)
                    branch = came
            self.assertEqual(branch_text(texts, start, steps), branch)
            self.assertIs(can_come(texts, branch), True)

    def test_shortest(self):
        generator = random.Random(292)
        found = set()
        for _ in range(150):
            texts, _, letters = random_question(generator)
            known = distances(texts, range(len(texts)), 9)
            for text in texts_to(4, letters):
                told = shortest_branch(texts, text)
                found.add(told is None)
                if told is None:
                    self.assertNotIn(text, known)
                else:
                    self.assertEqual(branch_text(texts, *told), text)
                    self.assertLessEqual(len(told[1]), known.get(text, 100))
                    papers = [branch_paper(texts, start, text)[0] for start in range(len(texts))]
                    self.assertEqual(len(told[1]), min(len(steps) for steps in papers if steps is not None))
        self.assertEqual(found, {True, False})

    def test_some(self):
        self.assertEqual(shortest_branch([(1,), ()], ()), (1, ()))
        self.assertIsNone(shortest_branch([(1,)], ()))
        self.assertEqual(shortest_branch([(1, 2), (4, 2), (1, 5)], (4, 5))[1:], shortest_branch([(1, 2), (4, 2), (1, 5)], [4, 5])[1:])
        self.assertEqual(len(shortest_branch([(1, 2), (4, 2), (1, 5)], (4, 5))[1]), 1)
        self.assertEqual(len(shortest_branch([(), (7,)], (7,) * 60)[1]), 59)

    def test_chains_of_five(self):
        generator = random.Random(293)
        checked = 0
        for _ in range(400):
            texts, _, _ = random_question(generator, 3)
            for many in (1, 3, 5):
                text = chain_text([generator.choice(texts) for _ in range(many)])
                if text is not None:
                    checked += 1
                    self.assertLessEqual(len(shortest_branch(texts, text)[1]), many // 2)
        self.assertGreater(checked, 500)

    def test_a_chain_of_seven(self):
        chain = (RINGS[1], RINGS[2], RINGS[1], RINGS[0], RINGS[1], RINGS[2], RINGS[1])
        self.assertEqual(chain_text(chain), ())
        self.assertIs(can_come(RINGS, ()), True)
        self.assertIsNone(shortest_branch(RINGS, ()))
        for start in range(3):
            paper = branch_paper(RINGS, start, ())
            self.assertIsNone(paper[0])
            self.assertIs(branch_holds(RINGS, start, (), paper), True)

    def test_wrong_inputs(self):
        for function, more in ((branch_text, 2), (shortest_branch, 1), (branch_paper, 2), (branch_holds, 3)):
            for texts in (None, (), 3):
                self.refuses(InvalidTexts, -1, function, texts, *[None] * more)
            for wrong in STRANGE + ((2,),):
                if wrong != "":
                    self.refuses(InvalidTexts, 1, function, [(2,), wrong, None], *[None] * more)
        for function, more in ((branch_text, 1), (branch_paper, 1), (branch_holds, 2)):
            for start in (None, True, -1, 3, "0", (0,)):
                self.refuses(InvalidIndex, -1, function, RINGS, start, *[None] * more)
        for text in STRANGE:
            self.refuses(InvalidText, -1, shortest_branch, RINGS, text)
            self.refuses(InvalidText, -1, branch_paper, RINGS, 0, text)
            self.refuses(InvalidText, -1, branch_holds, RINGS, 0, text, None)

    def test_wrong_steps(self):
        for steps in (None, 3, "a"):
            self.refuses(InvalidDeeds, -1, branch_text, RINGS, 0, steps)
        good = ("front", 0, 0)
        for step in STRANGE + (("front", 0), ("front", 0, 3), ("front", -1, 0), ("front", True, 0), ("side", 0, 0),
                               ("back", 0, "0"), (0, 0, 0), ("front", 0, 0, 0)):
            self.refuses(InvalidDeeds, 1, branch_text, RINGS, 0, [good, step, None])
            # Not even a step that clashes goes ahead of one that is none.
            self.refuses(InvalidDeeds, 1, branch_text, [(1, 1), (2, 2), (3, 3)], 0, [("front", 1, 0), step])
        self.refuses(Refused, 1, branch_text, [(1, 1), (2, 2)], 0, [("front", 0, 0), ("front", 1, 0), ("front", 1, 0)])


class PaperTest(Case):

    def test_small_ones(self):
        generator = random.Random(301)
        found = set()
        for _ in range(150):
            texts, start, letters = random_question(generator)
            known = distances(texts, [start], 9)
            some = texts_to(3, letters) + generator.sample(sorted(known), min(5, len(known)))
            for number, text in enumerate(some):
                paper = branch_paper(texts, start, text)
                self.assertIs(branch_holds(texts, start, text, paper), True)
                found.add(paper[0] is None)
                weight = end_weight(paper[1], text, dict(paper[1][0]))
                if paper[0] is None:
                    self.assertNotIn(text, known)
                    self.assertIsNone(weight)
                else:
                    self.assertEqual(branch_text(texts, start, paper[0]), text)
                    self.assertLessEqual(len(paper[0]), known.get(text, 100))
                    self.assertEqual(weight, len(paper[0]))
                if number == 0:
                    self.check_web(texts, start, paper[1], known)
        self.assertEqual(found, {True, False})

    def check_web(self, texts, start, web, known):
        self.assertTrue(keeps(web, texts))
        self.assertEqual(end_weight(web, texts[start], dict(web[0])), 0)
        for part in web:
            self.assertEqual(part, tuple(sorted(part)))
        for text in known:
            self.assertLessEqual(end_weight(web, text, dict(web[0])), known[text])

    def test_holds_as_the_promise_tells(self):
        """Webs changed at one place hold just where they still keep the changes and weigh as they should."""
        generator = random.Random(302)
        told = set()
        for _ in range(250):
            texts, start, _ = random_question(generator, 3)
            text = generator.choice(sorted(distances(texts, [start], 6)))
            steps, web = branch_paper(texts, start, text)
            side = generator.randrange(3)
            if not web[side]:
                continue
            at = generator.randrange(len(web[side]))
            row = web[side][at]
            weight = generator.choice((0, row[-1] + 1, row[-1] + 2, 10 ** 7, None))
            put = () if weight is None else (row[:-1] + (weight,),)
            changed = web[:side] + (web[side][:at] + put + web[side][at + 1:],) + web[side + 1:]
            expected = keeps(changed, texts) and end_weight(changed, texts[start], dict(changed[0])) == 0
            expected = expected and end_weight(changed, text, dict(changed[0])) == len(steps)
            told.add(expected)
            self.assertIs(branch_holds(texts, start, text, (steps, changed)), expected)
        self.assertEqual(told, {True, False})

    def test_papers_changed(self):
        texts = [(1, 2), (4, 2), (1, 5)]
        steps, web = branch_paper(texts, 0, (4, 5))
        starts, ends, ties = web
        self.assertEqual(len(steps), 2)
        self.assertIs(branch_holds(texts, 0, (4, 5), (steps, web)), True)
        other = (("back", 0, 2), ("front", 0, 1))
        self.assertIs(branch_holds(texts, 0, (4, 5), (other, web)), True)
        for wrong in (None, list(steps), steps[:1], steps + (("front", 0, 0),), (list(steps[0]), steps[1]), (None, None),
                      (("front", 1, 0), ("front", 0, 1)), (("front", False, 1), ("back", 0, 2)), other[::-1] + other, 3):
            self.assertIs(branch_holds(texts, 0, (4, 5), (wrong, web)), False)
        for wrong in (None, list(web), (list(starts), ends, ties), (starts, list(ends), ties), (starts, ends, list(ties)),
                      (starts, ends), (starts, ends, ties, ()), (starts, ends, ties[::-1]), (starts, ends, ties[:1] + ties),
                      (starts + starts, ends, ties), (starts, ends, (list(ties[0]),) + ties[1:]),
                      (starts, ends, (ties[0][:3],) + ties[1:]), (starts, ends, (ties[0][:3] + (-1,),) + ties[1:]),
                      (starts, ends, (ties[0][:3] + (False,),) + ties[1:]), ((starts[0][:1],), ends, ties),
                      (starts, ends, ties + ((10 ** 7, 100, 0, 0),)), ((), (), ()), 3):
            self.assertIs(branch_holds(texts, 0, (4, 5), (steps, wrong)), False)
        more = (starts, ends + ((10 ** 7, 10 ** 7),), ties)
        self.assertIs(branch_holds(texts, 0, (4, 5), (steps, more)), keeps(more, texts))
        for value in STRANGE + ((steps,), [steps, web], (steps, web, web), (web, steps)):
            self.assertIs(branch_holds(texts, 0, (4, 5), value), False)

    def test_other_webs_hold(self):
        # One place that leads every letter to itself keeps all changes, but weighs nothing.
        texts = [(1,), ()]
        ring = (((7, 0),), ((7, 0),), ((7, 1, 7, 1),))
        self.assertIs(branch_holds(texts, 1, (1, 1), ((("front", 1, 0), ("back", 1, 0)), ring)), True)
        self.assertIs(branch_holds(texts, 1, (2,), (None, ring)), True)
        self.assertIs(branch_holds(texts, 0, (1, 1), ((("front", 1, 0),), ring)), False)
        free = (((7, 0),), ((7, 0),), ((7, 1, 7, 0),))
        self.assertIs(branch_holds(texts, 1, (1,), ((("front", 1, 0),), free)), False)
        self.assertIs(branch_holds(texts, 0, (1,), ((), free)), True)

    def test_any_numbers_in_webs(self):
        texts = [(1,), (2,)]
        starts, ends, ties = ((7, 0),), ((8, 0),), ((7, 1, 8, 0), (7, 2, 8, 1))

        def holds(*web):
            return branch_holds(texts, 0, (1,), ((), web))

        self.assertIs(holds(starts, ends, ties), True)
        self.assertIs(holds(starts, ((3, 5),) + ends, ties), True)
        self.assertIs(holds(((3, 5),) + starts, ends, ties), True)
        self.assertIs(holds(starts, ends, ties + ((10 ** 7, 1, 10 ** 7, 0),)), True)
        for wrong in ((True, 5), (-1, 5), (3, -1), (3, True), (3, None), (3,), (3, 5, 5), [3, 5], None):
            self.assertIs(holds((wrong,) + starts, ends, ties), False)
            self.assertIs(holds(starts, (wrong,) + ends, ties), False)
        for wrong in ((7, 1, 8, 5), (7, 2, 8, 1), (7, 2, 8, 2), (9, 100, 9, 0), (9, 1, 9, True), (9, True, 9, 0),
                      (9, -1, 9, 0), (9, 1, -9, 0), (9, 1, 9)):
            self.assertIs(holds(starts, ends, tuple(sorted(ties + (wrong,)))), False)

    def test_changes_of_changes(self):
        for texts in ([(0, 1, 0, 0, 1, 1, 1), (0, 1), (0,)], [(1, 1, 1, 1, 0, 1), (1,), ()]):
            for start in range(3):
                web = branch_paper(texts, start, ())[1]
                self.assertTrue(keeps(web, texts))
                self.assertEqual(end_weight(web, texts[start], dict(web[0])), 0)

    def test_greatest(self):
        generator = random.Random(303)
        far = 0
        for _ in range(60):
            texts, start, letters = random_question(generator, 8)
            text = texts[start]
            for _ in range(60):
                came = [behind(texts, step, text) for step in steps_of(len(texts))]
                text = generator.choice([part for part in came if part is not None and len(part) <= 60] + [text])
            paper = branch_paper(texts, start, text)
            self.assertIs(branch_holds(texts, start, text, paper), True)
            far = max(far, len(paper[0]))
            text = tuple(generator.randrange(letters) for _ in range(60))
            self.assertIs(branch_holds(texts, start, text, branch_paper(texts, start, text)), True)
        self.assertGreater(far, 9)
        paper = branch_paper([(), (7,)], 0, (7,) * 60)
        self.assertEqual(len(paper[0]), 60)
        self.assertIs(branch_holds([(), (7,)], 0, (7,) * 60, paper), True)
