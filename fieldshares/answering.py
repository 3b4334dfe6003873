"""What each call answers: a list of its number and what else is told."""

from fieldshares.parts import HUNDRED

START = 0

DONE = 0
NOT_STARTED = -11
NOT_TO_BE_MOVED = -12
NOT_AS_TOLD = -22
TOO_FINE = -28
NOT_WITHIN = -33

MOST_GENERATIONS = 4
MOST_WEIGHT = 1000
MOST_PARTS = 1000
FINEST_LOWER = 1000000
FIELDS_BY_LENGTH = {4: 2, 9: 3, 16: 4}


def are_fields(fields, told):
    return all([field < fields.how_many() for field in told])


def are_generations(n):
    return n <= MOST_GENERATIONS


def are_one_each(fields, told, most):
    return len(told) == fields.how_many() and max(told) <= most


def first_time(by_generation):
    """After how many generations, first, it is so; told is whether it's so after 0, after 1, and so on."""
    for n, is_so in enumerate(by_generation):
        if is_so:
            return [n]
    return [NOT_WITHIN]


def answer_start(fields, told):
    if len(told) not in FIELDS_BY_LENGTH:
        return [NOT_AS_TOLD]
    size = FIELDS_BY_LENGTH[len(told)]
    rows = [told[at:at + size] for at in range(0, len(told), size)]
    if any([sum(row) != HUNDRED for row in rows]):
        return [NOT_AS_TOLD]
    fields.begin(rows)
    return [size]


def answer_shares(fields, told):
    if not are_one_each(fields, told, HUNDRED):
        return [NOT_AS_TOLD]
    fields.tell_shares(told)
    return [DONE]


def answer_come(fields, told):
    i = told[0]
    j = told[1]
    k = told[2]
    n = told[3]
    if not are_fields(fields, [i, j, k]) or n == 0:
        return [NOT_AS_TOLD]
    if j == k or fields.comers(i, j) < n:
        return [NOT_TO_BE_MOVED]
    fields.move_comers(i, j, k, n)
    return [fields.comers(i, k)]


def answer_share(fields, told):
    if not are_fields(fields, told):
        return [NOT_AS_TOLD]
    return [DONE] + fields.share_after(0, told[0])


def answer_next(fields, told):
    if fields.greatest_lower() > FINEST_LOWER:
        return [TOO_FINE]
    fields.go_by()
    return [DONE]


def answer_after(fields, told):
    n = told[0]
    if not are_generations(n) or not are_fields(fields, told[1:]):
        return [NOT_AS_TOLD]
    return [DONE] + fields.share_after(n, told[1])


def answer_apart(fields, told):
    if not are_generations(told[0]):
        return [NOT_AS_TOLD]
    return [DONE] + fields.apart_after(told[0])


def answer_bound(fields, told):
    if not are_generations(told[0]):
        return [NOT_AS_TOLD]
    return [DONE] + fields.bound_after(told[0])


def answer_fewest(fields, told):
    return [fields.fewest()]


def answer_from(fields, told):
    n = told[0]
    if not are_generations(n) or not are_fields(fields, told[1:]):
        return [NOT_AS_TOLD]
    return [DONE] + fields.forebears_after(n, told[1], told[2])


def answer_reach(fields, told):
    if not are_fields(fields, told):
        return [NOT_AS_TOLD]
    return first_time([fields.has_some_after(n, told[0], told[1]) for n in range(MOST_GENERATIONS + 1)])


def answer_mixed(fields, told):
    return first_time([fields.is_mixed_after(n) for n in range(MOST_GENERATIONS + 1)])


def answer_keeps(fields, told):
    if not are_one_each(fields, told, MOST_WEIGHT):
        return [NOT_AS_TOLD]
    return [1 if fields.are_keeping(told) else 0]


def answer_weighed(fields, told):
    if not are_one_each(fields, told, MOST_WEIGHT):
        return [NOT_AS_TOLD]
    return [DONE] + fields.weighed(told)


def answer_rest(fields, told):
    if max(told) > HUNDRED:
        return [NOT_AS_TOLD]
    return [DONE] + fields.rest_of_two(told[0], told[1])


def answer_pair(fields, told):
    n = told[2]
    if max(told[:2]) > HUNDRED or not are_generations(n):
        return [NOT_AS_TOLD]
    return [DONE] + fields.two_after(told[0], told[1], n)


def answer_first(fields, told):
    if not are_generations(told[0]):
        return [NOT_AS_TOLD]
    return [fields.first_greatest_after(told[0])]


def answer_soon(fields, told):
    m = told[0]
    if m < 1 or m > MOST_PARTS:
        return [NOT_AS_TOLD]
    return first_time([fields.is_near_after(n, m) for n in range(MOST_GENERATIONS + 1)])


def answer_alone(fields, told):
    if not are_fields(fields, told):
        return [NOT_AS_TOLD]
    return [1 if fields.own_comers(told[0]) == HUNDRED else 0]


def answer_state(fields, told):
    return [fields.how_many()] + [fields.own_comers(i) for i in range(fields.how_many())]


ANSWERS = {
    0: answer_start,
    1: answer_shares,
    2: answer_come,
    3: answer_share,
    4: answer_next,
    5: answer_after,
    6: answer_apart,
    7: answer_bound,
    8: answer_fewest,
    9: answer_from,
    10: answer_reach,
    11: answer_mixed,
    12: answer_keeps,
    13: answer_weighed,
    14: answer_rest,
    15: answer_pair,
    16: answer_first,
    17: answer_soon,
    18: answer_alone,
    19: answer_state,
}


def answer_call(fields, number, told):
    if number != START and fields.how_many() == 0:
        return [NOT_STARTED]
    return ANSWERS[number](fields, told)
