"""What is asked of the list as it stands: a thing's best form, all things, and what a form names."""

from rightnames.refusals import NO_RIGHT_FORM, NO_SUCH_THING, NOT_FITTING, refusal
from rightnames.terms import ALLOWED, BEST, numbered, spelled, things_meant
from rightnames.words import is_form


def thing_with_number(terms, number):
    for thing in terms.kept:
        if thing.number == number:
            return thing
    return None


def tell_best(terms, number):
    thing = thing_with_number(terms, number)
    if thing is None:
        return refusal(NO_SUCH_THING)
    right_forms = thing.target_forms_that_are(BEST) + thing.target_forms_that_are(ALLOWED)
    if len(right_forms) == 0:
        return refusal(NO_RIGHT_FORM)
    return spelled(right_forms[0])


def tell_things(terms):
    answer = [len(terms.kept)]
    for thing in terms.kept:
        answer = answer + [thing.number, len(thing.source_forms), len(thing.standings)]
    return answer


def tell_named(terms, words):
    if not is_form(words):
        return refusal(NOT_FITTING)
    # Forms are kept as tuples, and a list equals none of them.
    form = tuple(words)
    served = [thing for thing in terms.kept if thing.is_served_by(form)]
    forbidding = [thing for thing in terms.kept if thing.forbids(form)]
    return numbered(things_meant(terms, form)) + numbered(served) + numbered(forbidding)
