"""What each call answers: a list of its number and what else is told."""

from fieldshares.parts import HUNDRED

START = 0

DONE = 0
NOT_STARTED = -11
NOT_TO_BE_MOVED = -12
NOT_AS_TOLD = -22
TOO_FINE = -28

MOST_GENERATIONS = 4
FINEST_LOWER = 1000000
FIELDS_BY_LENGTH = {4: 2, 9: 3, 16: 4}


def are_fields(fields, told):
    return all([field < fields.how_many() for field in told])


def are_generations(n):
    return n <= MOST_GENERATIONS


def answer_start(fields, told):
    if len(told) not in FIELDS_BY_LENGTH:
        return [NOT_AS_TOLD]
    size = FIELDS_BY_LENGTH[len(told)]
    rows = [told[at:at + size] for at in range(0, len(told), size)]
    if any([sum(row) != HUNDRED for row in rows]):
        return [NOT_AS_TOLD]
    fields.begin(rows)
    return [size]


def answer_shares(fields, told):
    if len(told) != fields.how_many() or max(told) > HUNDRED:
        return [NOT_AS_TOLD]
    fields.tell_shares(told)
    return [DONE]


def answer_come(fields, told):
    i = told[0]
    j = told[1]
    k = told[2]
    n = told[3]
    if not are_fields(fields, [i, j, k]) or n == 0:
        return [NOT_AS_TOLD]
    if j == k or fields.comers(i, j) < n:
        return [NOT_TO_BE_MOVED]
    fields.move_comers(i, j, k, n)
    return [fields.comers(i, k)]


def answer_share(fields, told):
    if not are_fields(fields, told):
        return [NOT_AS_TOLD]
    return [DONE] + fields.share_after(0, told[0])


def answer_next(fields, told):
    if fields.greatest_lower() > FINEST_LOWER:
        return [TOO_FINE]
    fields.go_by()
    return [DONE]


def answer_after(fields, told):
    n = told[0]
    if not are_generations(n) or not are_fields(fields, told[1:]):
        return [NOT_AS_TOLD]
    return [DONE] + fields.share_after(n, told[1])


def answer_apart(fields, told):
    if not are_generations(told[0]):
        return [NOT_AS_TOLD]
    return [DONE] + fields.apart_after(told[0])


def answer_bound(fields, told):
    if not are_generations(told[0]):
        return [NOT_AS_TOLD]
    return [DONE] + fields.bound_after(told[0])


def answer_fewest(fields, told):
    return [fields.fewest()]


def answer_from(fields, told):
    n = told[0]
    if not are_generations(n) or not are_fields(fields, told[1:]):
        return [NOT_AS_TOLD]
    return [DONE] + fields.forebears_after(n, told[1], told[2])


ANSWERS = {
    0: answer_start,
    1: answer_shares,
    2: answer_come,
    3: answer_share,
    4: answer_next,
    5: answer_after,
    6: answer_apart,
    7: answer_bound,
    8: answer_fewest,
    9: answer_from,
}


def answer_call(fields, number, told):
    if number != START and fields.how_many() == 0:
        return [NOT_STARTED]
    if number not in ANSWERS:
        # The calls from reach on are not built yet; the calls behind one are answered all the same.
        return []
    return ANSWERS[number](fields, told)
