"""The list of things: what it keeps, and how a thing comes into it and goes, and how that is undone."""

from rightnames.reader import NumberReader
from rightnames.refusals import NO_SUCH_THING, NOT_FITTING, NOTHING_TO_UNDO, TOO_MANY_THINGS, refusal
from rightnames.words import is_form

BEST = 0
ALLOWED = 1
FORBIDDEN = 2
MOST_THINGS = 8
MOST_SOURCE_FORMS = 3
MOST_TARGET_FORMS = 4


class Thing:
    def __init__(self, number, source_forms, target_pairs):
        self.number = number
        self.source_forms = source_forms
        # From each target form to 0, 1 or 2; a dict keeps the order in which the forms were told.
        self.standings = {}
        for form, standing in target_pairs:
            self.standings[form] = standing

    def is_meant_by(self, form):
        return form in self.source_forms

    def is_served_by(self, form):
        return form in self.standings and self.standings[form] < FORBIDDEN

    def forbids(self, form):
        return form in self.standings and self.standings[form] == FORBIDDEN

    def target_forms_that_are(self, standing):
        return [form for form in self.standings if self.standings[form] == standing]


class TermList:
    def __init__(self):
        self.kept = []
        # The lists ahead of each thing or gone that isn't undone, the newest last.
        self.kept_before = []
        # Counted apart from what is kept: a number is not given again when its thing is gone or undone.
        self.numbers_given = 0


def read_source_forms(reader):
    forms = []
    for turn in range(reader.take()):
        forms.append(tuple(reader.take_row()))
    return forms


def read_target_forms(reader):
    pairs = []
    for turn in range(reader.take()):
        form = tuple(reader.take_row())
        pairs.append((form, reader.take()))
    return pairs


def are_forms(forms):
    none_twice = len(set(forms)) == len(forms)
    return none_twice and all([is_form(form) for form in forms])


def source_forms_fit(forms):
    return 1 <= len(forms) <= MOST_SOURCE_FORMS and are_forms(forms)


def target_forms_fit(pairs):
    standings_fit = all([standing <= FORBIDDEN for form, standing in pairs])
    return len(pairs) <= MOST_TARGET_FORMS and standings_fit and are_forms([form for form, standing in pairs])


def change_list(terms, things):
    # Things come as a new list: the one that was kept so far stays as it is, for undo to bring back.
    terms.kept_before.append(terms.kept)
    terms.kept = things


def add_thing(terms, told):
    reader = NumberReader(told)
    source_forms = read_source_forms(reader)
    target_pairs = read_target_forms(reader)
    if not (source_forms_fit(source_forms) and target_forms_fit(target_pairs)):
        return refusal(NOT_FITTING)
    if len(terms.kept) >= MOST_THINGS:
        return refusal(TOO_MANY_THINGS)
    number = terms.numbers_given
    terms.numbers_given = number + 1
    change_list(terms, terms.kept + [Thing(number, source_forms, target_pairs)])
    return [number]


def drop_thing(terms, number):
    left = [thing for thing in terms.kept if thing.number != number]
    if len(left) == len(terms.kept):
        return refusal(NO_SUCH_THING)
    change_list(terms, left)
    return [len(left)]


def undo_change(terms):
    if len(terms.kept_before) == 0:
        return refusal(NOTHING_TO_UNDO)
    terms.kept = terms.kept_before.pop()
    return [len(terms.kept)]


def all_source_forms(terms):
    # A dict and not a list, so that each form comes once, at the place where it was told first.
    forms = {}
    for thing in terms.kept:
        for form in thing.source_forms:
            forms[form] = True
    return forms


def all_target_forms(terms):
    forms = {}
    for thing in terms.kept:
        for form in thing.standings:
            forms[form] = True
    return forms


def things_meant(terms, form):
    return [thing for thing in terms.kept if thing.is_meant_by(form)]


def numbered(things):
    # Things in an answer: how many, then their numbers.
    return [len(things)] + [thing.number for thing in things]


def spelled(form):
    # A form in an answer: how many words, then they.
    return [len(form)] + list(form)


def tell_doubles(terms):
    answer = []
    count = 0
    for form in all_source_forms(terms):
        things = things_meant(terms, form)
        if len(things) > 1:
            count = count + 1
            answer = answer + spelled(form) + numbered(things)
    return [count] + answer
