"""How one list of whole numbers is taken apart into calls."""

# start, shares, keeps, weighed
WITH_A_ROW = (0, 1, 12, 13)

# By a call's number, how many whole numbers are told with it.
NUMBERS_TOLD = {
    2: 4,  # come
    3: 1,  # share
    4: 0,  # next
    5: 2,  # after
    6: 1,  # apart
    7: 1,  # bound
    8: 0,  # fewest
    9: 3,  # from
    10: 2,  # reach
    11: 0,  # mixed
    14: 2,  # rest
    15: 3,  # pair
    16: 1,  # first
    17: 1,  # soon
    18: 1,  # alone
    19: 0,  # state
}


def split_calls(calls):
    """Each call as a pair: its number, and a new list of what is told with it."""
    pairs = []
    at = 0
    while at < len(calls):
        number = calls[at]
        if number in WITH_A_ROW:
            begin = at + 2
            end = begin + calls[at + 1]
        else:
            begin = at + 1
            end = begin + NUMBERS_TOLD[number]
        pairs.append((number, calls[begin:end]))
        at = end
    return pairs
