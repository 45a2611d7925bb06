"""Many made-up lines, answered a second time by a model that tries everything out.

The model shares nothing with the program: it works on the parts of the calls and goes through
every pairing there is.
"""

import random
import unittest

from tests.helper import ask, check, doubles, gone, marks, thing


def model_marks(sentence, forms):
    if not sentence:
        return []
    standing = [form for form in forms if sentence[:len(form)] == form]
    if standing:
        step = max(len(form) for form in standing)
        head = [(0, step, sentence[:step])]
    else:
        step, head = 1, []
    behind = model_marks(sentence[step:], forms)
    return head + [(start + step, stop + step, form) for start, stop, form in behind]


def all_pairings(goes, used=frozenset()):
    """Every pairing, the first one first."""
    if not goes:
        yield ()
        return
    for target in sorted(goes[0]):
        if target not in used:
            for rest in all_pairings(goes[1:], used | {target}):
                yield (target + 1,) + rest
    for rest in all_pairings(goes[1:], used):
        yield (0,) + rest


def told_pairing(goes):
    # max keeps the first of those that are equal.
    return max(all_pairings(goes), key=lambda pairing: sum(choice > 0 for choice in pairing))


def bad_words(words, least, most):
    return not least <= len(words) <= most or any(word > 999 for word in words)


class Model:
    def __init__(self):
        self.things = {}
        self.given = 0

    def sources(self):
        return [form for sources, targets in self.things.values() for form in sources]

    def having(self, form):
        return [number for number, (sources, targets) in self.things.items() if form in sources]

    def thing(self, sources, targets):
        targets_alone = [form for form, standing in targets]
        bad = len(sources) not in (1, 2, 3) or len(targets) > 4
        for forms in (sources, targets_alone):
            bad = bad or any(bad_words(form, 1, 4) or forms.count(form) > 1 for form in forms)
        if bad or any(standing > 2 for form, standing in targets):
            return [-1]
        if len(self.things) == 8:
            return [-5]
        self.things[self.given] = (sources, targets)
        self.given += 1
        return [self.given - 1]

    def gone(self, number):
        if number not in self.things:
            return [-2]
        self.things.pop(number)
        return [len(self.things)]

    def marks(self, sentence):
        if bad_words(sentence, 0, 16):
            return [-1]
        found = model_marks(sentence, self.sources())
        answer = [len(found)]
        for start, stop, form in found:
            answer += [start, stop, len(self.having(form))] + self.having(form)
        return answer

    def check(self, sentence, translation):
        if bad_words(sentence, 0, 16) or bad_words(translation, 0, 16):
            return [-1]
        said = [(form, number, standing) for number in self.things for form, standing in self.things[number][1]]
        source = model_marks(sentence, self.sources())
        target = model_marks(translation, [form for form, number, standing in said])
        if len(source) > 7 or len(target) > 7:
            return [-1]
        meant = [set(self.having(form)) for start, stop, form in source]
        every = set().union(*meant)
        serves = [{n for form, n, standing in said if form == mark[2] and standing < 2} for mark in target]
        forbids = [{n for form, n, standing in said if form == mark[2] and standing == 2} for mark in target]
        pairing = told_pairing([[t for t in range(len(target)) if one & serves[t]] for one in meant])
        wrong = [t for t in range(len(target)) if forbids[t] & every and not serves[t] & every]
        answer = [len(source), len(target), sum(choice > 0 for choice in pairing), *pairing, len(wrong)]
        for t in wrong:
            answer += target[t][:2]
        return answer

    def doubles(self):
        told = []
        for form in self.sources():
            if form not in told and len(self.having(form)) > 1:
                told.append(form)
        answer = [len(told)]
        for form in told:
            answer += [len(form), *form, len(self.having(form))] + self.having(form)
        return answer


class Maker:
    """Made-up calls out of few words, so that forms meet often."""

    def __init__(self, seed):
        self.chance = random.Random(seed)
        self.words = self.chance.choice([2, 3, 4, 6])
        self.longest = self.chance.choice([1, 2, 4])
        self.odd = self.chance.choice([0, 0, 20])

    def oddly(self):
        return self.chance.randrange(100) < self.odd

    def word(self):
        return self.chance.choice([999, 1000, 4294967295]) if self.oddly() else self.chance.randrange(self.words)

    def form(self):
        length = self.chance.choice([0, 4, 5]) if self.oddly() else self.chance.randint(1, self.longest)
        return tuple(self.word() for turn in range(length))

    def forms(self, least, most):
        found = [self.form() for turn in range(self.chance.randint(least, most))]
        return found if self.oddly() else list(dict.fromkeys(found))

    def sentence(self):
        length = self.chance.choice([0, 16, 17, 20]) if self.oddly() else self.chance.randint(0, 12)
        return tuple(self.word() for turn in range(length))

    def call(self):
        name = self.chance.choice(["thing"] * 5 + ["gone", "marks", "check", "check", "doubles"])
        if name == "thing":
            standings = [0, 1, 2, 2, 3] if self.oddly() else [0, 1, 2]
            targets = [(form, self.chance.choice(standings)) for form in self.forms(0, 4 + self.oddly())]
            return thing, name, (self.forms(1 - self.oddly(), 3 + self.oddly()), targets)
        if name == "gone":
            return gone, name, (self.chance.randrange(12),)
        if name == "marks":
            return marks, name, (self.sentence(),)
        if name == "check":
            return check, name, (self.sentence(), self.sentence())
        return doubles, name, ()


class AgainstModel(unittest.TestCase):
    def test_made_up_lines(self):
        for seed in range(1500):
            maker = Maker(seed)
            made = [maker.call() for turn in range(20)]
            model = Model()
            expected = [getattr(model, name)(*parts) for build, name, parts in made]
            self.assertEqual(ask(*[build(*parts) for build, name, parts in made]), expected, seed)

    def test_pairings_of_many_shapes(self):
        for seed in range(400):
            chance = random.Random(seed)
            size = chance.randint(2, 5) if seed % 40 else 7
            model, calls, expected = Model(), [], []
            for source in range(size):
                picked = chance.sample(range(size), min(size, chance.randint(1, 4)))
                parts = [(source,)], [((10 + target,), chance.choice([0, 1, 1, 2])) for target in picked]
                calls.append(thing(*parts))
                expected.append(model.thing(*parts))
            parts = tuple(range(size)), tuple(10 + target for target in range(size))
            calls.append(check(*parts))
            expected.append(model.check(*parts))
            self.assertEqual(ask(*calls), expected, seed)


if __name__ == "__main__":
    unittest.main()
