"""Calls put together from their parts, and answers taken apart again."""

from rightnames.office import answers

BEST = 0
ALLOWED = 1
FORBIDDEN = 2


def row(numbers):
    return [len(numbers)] + list(numbers)


def thing(sources, targets=()):
    """sources: forms; targets: pairs of a form and 0, 1 or 2."""
    told = [len(sources)]
    for form in sources:
        told += row(form)
    told.append(len(targets))
    for form, standing in targets:
        told += row(form) + [standing]
    return [0] + row(told)


def gone(number):
    return [1, number]


def marks(sentence):
    return [2] + row(sentence)


def check(sentence, translation):
    return [3] + row(sentence) + row(translation)


def doubles():
    return [4]


def best(number):
    return [5, number]


def things():
    return [6]


def undo():
    return [7]


def named(form):
    return [8] + row(form)


def split(numbers):
    parts = []
    place = 0
    while place < len(numbers):
        length = numbers[place]
        part = numbers[place + 1:place + 1 + length]
        assert length > 0 and len(part) == length, numbers
        parts.append(part)
        place += 1 + length
    return parts


def ask(*calls):
    """What is answered of each call."""
    line = []
    for call in calls:
        line += call
    parts = split(answers(line))
    assert len(parts) == len(calls), parts
    return parts


def last(*calls):
    return ask(*calls)[-1]
