"""The calls on one object of fields, and all their answers."""

from fieldshares.answering import answer_call
from fieldshares.fields import Fields
from fieldshares.reading import split_calls


def answers(calls):
    """For each call, in order: how many numbers are answered, then these."""
    fields = Fields()
    given = []
    for number, told in split_calls(calls):
        answer = answer_call(fields, number, told)
        given.append(len(answer))
        given.extend(answer)
    return given
