"""How tests tell calls in one list, and take the answers' list apart again."""

from mendedplans.house import answers

HIGHEST = 4294967295


def begins(facts, now, wanted):
    return [0, facts, now, wanted]


def act(*row):
    return [1, len(row), *row]


def plan(*acts):
    return [2, len(acts), *acts]


def goes(most):
    return [3, most]


def happens(so, not_so):
    return [4, so, not_so]


def wants(wanted):
    return [5, wanted]


def still():
    return [6]


def needs():
    return [7]


def near():
    return [8]


def mend():
    return [9]


def fresh():
    return [10]


def did():
    return [11]


def in_one_list(calls):
    return [number for call in calls for number in call]


def taken_apart(answered):
    """One list a call, without its count."""
    parts = []
    at = 0
    while at < len(answered):
        count = answered[at]
        part = answered[at + 1:at + 1 + count]
        if len(part) != count:
            raise ValueError("a count is beyond the answers' end")
        parts.append(part)
        at += 1 + count
    return parts


def asked(*calls):
    return taken_apart(answers(in_one_list(calls)))


def last(*calls):
    return asked(*calls)[-1]
