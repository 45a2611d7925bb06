"""The marks in a sentence."""

from rightnames.refusals import NOT_FITTING, refusal
from rightnames.terms import all_source_forms, numbered, things_meant
from rightnames.words import MOST_FORM_WORDS, is_sentence


class Mark:
    def __init__(self, begin, form):
        self.begin = begin
        self.end = begin + len(form)
        self.form = form


def longest_form_at(sentence, place, forms):
    longest = min(MOST_FORM_WORDS, len(sentence) - place)
    for length in range(longest, 0, -1):
        words = tuple(sentence[place:place + length])
        if words in forms:
            return words
    return ()


def find_marks(sentence, forms):
    found = []
    place = 0
    while place < len(sentence):
        form = longest_form_at(sentence, place, forms)
        if len(form) > 0:
            found.append(Mark(place, form))
            place = place + len(form)
        else:
            place = place + 1
    return found


def tell_marks(terms, sentence):
    if not is_sentence(sentence):
        return refusal(NOT_FITTING)
    found = find_marks(sentence, all_source_forms(terms))
    answer = [len(found)]
    for mark in found:
        answer = answer + [mark.begin, mark.end] + numbered(things_meant(terms, mark.form))
    return answer
