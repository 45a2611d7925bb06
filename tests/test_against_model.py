"""Many made-up lines, answered a second time by a model that tries everything out.

The model shares nothing with the program: it works on the parts of the calls and goes through
every pairing there is, and it keeps what was told and gone, and makes the list from that each time.
"""

import random
import unittest

from rightnames.office import answers
from tests.helper import ask, best, check, doubles, gone, marks, named, split, thing, things, undo


def model_marks(sentence, forms):
    if not sentence:
        return []
    standing = [form for form in forms if sentence[:len(form)] == form]
    if standing:
        step = max(len(form) for form in standing)
        head = [(0, step, sentence[:step])]
    else:
        step, head = 1, []
    behind = model_marks(sentence[step:], forms)
    return head + [(start + step, stop + step, form) for start, stop, form in behind]


def all_pairings(goes, used=frozenset()):
    """Every pairing, the first one first."""
    if not goes:
        yield ()
        return
    for target in sorted(goes[0]):
        if target not in used:
            for rest in all_pairings(goes[1:], used | {target}):
                yield (target + 1,) + rest
    for rest in all_pairings(goes[1:], used):
        yield (0,) + rest


def told_pairing(goes):
    # max keeps the first of those that are equal.
    return max(all_pairings(goes), key=lambda pairing: sum(choice > 0 for choice in pairing))


def bad_words(words, least, most):
    return not least <= len(words) <= most or any(word > 999 for word in words)


class Model:
    def __init__(self):
        self.changes = []
        self.given = 0

    def list_now(self):
        # In the order of the numbers, which is the order in which the things were told.
        left = {number for number, parts in self.changes} - {number for number, parts in self.changes if parts is None}
        told = {number: parts for number, parts in self.changes if parts is not None}
        return {number: told[number] for number in sorted(left)}

    def sources(self):
        return [form for sources, targets in self.list_now().values() for form in sources]

    def having(self, form):
        return [number for number, (sources, targets) in self.list_now().items() if form in sources]

    def having_as_target(self, form, standings):
        return [
            number
            for number, (sources, targets) in self.list_now().items()
            if any((form, standing) in targets for standing in standings)
        ]

    def thing(self, sources, targets):
        targets_alone = [form for form, standing in targets]
        bad = len(sources) not in (1, 2, 3) or len(targets) > 4
        for forms in (sources, targets_alone):
            bad = bad or any(bad_words(form, 1, 4) or forms.count(form) > 1 for form in forms)
        if bad or any(standing > 2 for form, standing in targets):
            return [-1]
        if len(self.list_now()) == 8:
            return [-5]
        self.changes.append((self.given, (sources, targets)))
        self.given += 1
        return [self.given - 1]

    def gone(self, number):
        if number not in self.list_now():
            return [-2]
        self.changes.append((number, None))
        return [len(self.list_now())]

    def marks(self, sentence):
        if bad_words(sentence, 0, 16):
            return [-1]
        found = model_marks(sentence, self.sources())
        answer = [len(found)]
        for start, stop, form in found:
            answer += [start, stop, len(self.having(form))] + self.having(form)
        return answer

    def check(self, sentence, translation):
        if bad_words(sentence, 0, 16) or bad_words(translation, 0, 16):
            return [-1]
        now = self.list_now()
        said = [(form, number, standing) for number in now for form, standing in now[number][1]]
        source = model_marks(sentence, self.sources())
        target = model_marks(translation, [form for form, number, standing in said])
        if len(source) > 7 or len(target) > 7:
            return [-1]
        meant = [set(self.having(form)) for start, stop, form in source]
        every = set().union(*meant)
        serves = [{n for form, n, standing in said if form == mark[2] and standing < 2} for mark in target]
        forbids = [{n for form, n, standing in said if form == mark[2] and standing == 2} for mark in target]
        pairing = told_pairing([[t for t in range(len(target)) if one & serves[t]] for one in meant])
        wrong = [t for t in range(len(target)) if forbids[t] & every and not serves[t] & every]
        answer = [len(source), len(target), sum(choice > 0 for choice in pairing), *pairing, len(wrong)]
        for t in wrong:
            answer += target[t][:2]
        return answer

    def doubles(self):
        told = []
        for form in self.sources():
            if form not in told and len(self.having(form)) > 1:
                told.append(form)
        answer = [len(told)]
        for form in told:
            answer += [len(form), *form, len(self.having(form))] + self.having(form)
        return answer

    def best(self, number):
        if number not in self.list_now():
            return [-2]
        # sorted keeps the order told of those that stand alike.
        targets = sorted(self.list_now()[number][1], key=lambda target: target[1])
        if not targets or targets[0][1] == 2:
            return [-6]
        return [len(targets[0][0]), *targets[0][0]]

    def things(self):
        answer = [len(self.list_now())]
        for number, (sources, targets) in self.list_now().items():
            answer += [number, len(sources), len(targets)]
        return answer

    def undo(self):
        if not self.changes:
            return [-7]
        self.changes.pop()
        return [len(self.list_now())]

    def named(self, form):
        if bad_words(form, 1, 4):
            return [-1]
        answer = []
        for they in (self.having(form), self.having_as_target(form, (0, 1)), self.having_as_target(form, (2,))):
            answer += [len(they), *they]
        return answer


class Maker:
    """Made-up calls out of few words, so that forms meet often."""

    def __init__(self, seed):
        self.chance = random.Random(seed)
        self.words = self.chance.choice([2, 3, 4, 6])
        self.longest = self.chance.choice([1, 2, 4])
        self.odd = self.chance.choice([0, 0, 20])
        self.told = 0

    def oddly(self):
        return self.chance.randrange(100) < self.odd

    def word(self):
        return self.chance.choice([999, 1000, 4294967295]) if self.oddly() else self.chance.randrange(self.words)

    def form(self):
        length = self.chance.choice([0, 4, 5]) if self.oddly() else self.chance.randint(1, self.longest)
        return tuple(self.word() for turn in range(length))

    def forms(self, least, most):
        found = [self.form() for turn in range(self.chance.randint(least, most))]
        return found if self.oddly() else list(dict.fromkeys(found))

    def sentence(self):
        length = self.chance.choice([0, 16, 17, 20]) if self.oddly() else self.chance.randint(0, 12)
        return tuple(self.word() for turn in range(length))

    def calls(self, count):
        # No line is asked that has more than 6 calls of check.
        checks = self.chance.randint(0, 6)
        changing = ["thing"] * 7 + ["gone"] * 3 + ["undo"] * self.chance.choice([0, 2, 6])
        looking = ["marks", "doubles", "best", "things", "named"]
        names = ["check"] * checks + [self.chance.choice(changing + looking) for turn in range(count - checks)]
        self.chance.shuffle(names)
        return [self.call(name) for name in names]

    def call(self, name):
        if name == "thing":
            self.told += 1
            standings = [0, 1, 2, 2, 3] if self.oddly() else [0, 1, 2]
            targets = [(form, self.chance.choice(standings)) for form in self.forms(0, 4 + self.oddly())]
            return thing, name, (self.forms(1 - self.oddly(), 3 + self.oddly()), targets)
        if name in ("gone", "best"):
            return {"gone": gone, "best": best}[name], name, (self.chance.randrange(self.told + 1),)
        if name == "marks":
            return marks, name, (self.sentence(),)
        if name == "check":
            return check, name, (self.sentence(), self.sentence())
        if name == "named":
            return named, name, (self.form(),)
        return {"doubles": doubles, "things": things, "undo": undo}[name], name, ()


class AgainstModel(unittest.TestCase):
    def assert_answered_as_by_the_model(self, made, seed):
        model = Model()
        expected = [getattr(model, name)(*parts) for build, name, parts in made]
        line = []
        for build, name, parts in made:
            line += build(*parts)
        handed_in = list(line)
        self.assertEqual(split(answers(handed_in)), expected, seed)
        self.assertEqual(handed_in, line, seed)
        self.assertEqual(split(answers(handed_in)), expected, seed)

    def test_made_up_lines(self):
        for seed in range(1500):
            self.assert_answered_as_by_the_model(Maker(seed).calls(20 if seed % 3 else 40), seed)

    def test_all_nine_calls_in_any_order(self):
        names = ["thing", "gone", "marks", "check", "doubles", "best", "things", "undo", "named"]
        for seed in range(500):
            maker = Maker(seed)
            ahead = [maker.call("thing") for turn in range(seed % 9)]
            nine = [maker.call(name) for name in maker.chance.sample(names * 2, 18)]
            self.assert_answered_as_by_the_model(ahead + nine, seed)

    def test_pairings_of_many_shapes(self):
        for seed in range(400):
            chance = random.Random(seed)
            size = chance.randint(2, 5) if seed % 40 else 7
            model, calls, expected = Model(), [], []
            for source in range(size):
                picked = chance.sample(range(size), min(size, chance.randint(1, 4)))
                parts = [(source,)], [((10 + target,), chance.choice([0, 1, 1, 2])) for target in picked]
                calls.append(thing(*parts))
                expected.append(model.thing(*parts))
            parts = tuple(range(size)), tuple(10 + target for target in range(size))
            calls.append(check(*parts))
            expected.append(model.check(*parts))
            self.assertEqual(ask(*calls), expected, seed)


if __name__ == "__main__":
    unittest.main()
