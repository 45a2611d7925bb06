"""Whether a translation uses right names."""

from rightnames.marking import find_marks
from rightnames.pairing import first_pairing
from rightnames.refusals import NOT_FITTING, refusal
from rightnames.terms import all_source_forms, all_target_forms, things_meant
from rightnames.words import is_sentence

MOST_CHECKED_MARKS = 7


def serves_one_of(things, form):
    return any([thing.is_served_by(form) for thing in things])


def forbidden_for_one_of(things, form):
    return any([thing.forbids(form) for thing in things])


def partners_of(things, target_marks):
    return [place for place, mark in enumerate(target_marks) if serves_one_of(things, mark.form)]


def is_wrong(things, form):
    return forbidden_for_one_of(things, form) and not serves_one_of(things, form)


def wrong_marks(meant_lists, target_marks):
    # A thing may come twice among those meant; that changes nothing where one of them is enough.
    meant = []
    for things in meant_lists:
        meant = meant + things
    return [mark for mark in target_marks if is_wrong(meant, mark.form)]


def compare_marks(terms, source_marks, target_marks):
    meant_lists = [things_meant(terms, mark.form) for mark in source_marks]
    partner_lists = [partners_of(things, target_marks) for things in meant_lists]
    choices = first_pairing(partner_lists, len(target_marks))
    pairs = len([choice for choice in choices if choice > 0])
    wrong = wrong_marks(meant_lists, target_marks)
    answer = [len(source_marks), len(target_marks), pairs] + choices + [len(wrong)]
    for mark in wrong:
        answer = answer + [mark.begin, mark.end]
    return answer


def check_translation(terms, sentence, translation):
    if not (is_sentence(sentence) and is_sentence(translation)):
        return refusal(NOT_FITTING)
    source_marks = find_marks(sentence, all_source_forms(terms))
    target_marks = find_marks(translation, all_target_forms(terms))
    if max(len(source_marks), len(target_marks)) > MOST_CHECKED_MARKS:
        return refusal(NOT_FITTING)
    return compare_marks(terms, source_marks, target_marks)
