"""The calls about one list of things, one behind another."""

from rightnames.checking import check_translation
from rightnames.lookup import tell_best, tell_named, tell_things
from rightnames.marking import tell_marks
from rightnames.reader import NumberReader
from rightnames.terms import TermList, add_thing, drop_thing, tell_doubles, undo_change

THING = 0
GONE = 1
MARKS = 2
CHECK = 3
DOUBLES = 4
BEST_FORM = 5
THINGS = 6
UNDO = 7
NAMED = 8


class UnknownCall(ValueError):
    pass


def answer_call(terms, reader):
    call = reader.take()
    if call == THING:
        return add_thing(terms, reader.take_row())
    if call == GONE:
        return drop_thing(terms, reader.take())
    if call == MARKS:
        return tell_marks(terms, reader.take_row())
    if call == CHECK:
        sentence = reader.take_row()
        return check_translation(terms, sentence, reader.take_row())
    if call == DOUBLES:
        return tell_doubles(terms)
    if call == BEST_FORM:
        return tell_best(terms, reader.take())
    if call == THINGS:
        return tell_things(terms)
    if call == UNDO:
        return undo_change(terms)
    if call == NAMED:
        return tell_named(terms, reader.take_row())
    raise UnknownCall(f"no call has the number {call}")


def answers(calls):
    terms = TermList()
    reader = NumberReader(calls)
    told = []
    while not reader.at_end():
        answer = answer_call(terms, reader)
        told.append(len(answer))
        told.extend(answer)
    return told
