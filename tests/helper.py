"""What the tests share: calls by their names, and answers taken apart call by call."""

from leastparted.desk import answers

TOP = 4294967295


def records(n):
    return [0, n]


def vote(i, j, pro, contra):
    return [1, i, j, pro, contra]


def rule(i, j, kind):
    return [2, i, j, kind]


def least():
    return [3]


def nth(k):
    return [4, k]


def sure():
    return [5]


def take_apart(told):
    """The answers one by one; fails unless the counts lead just to the list's end."""
    parts = []
    place = 0
    while place < len(told):
        behind = place + 1 + told[place]
        parts.append(told[place + 1:behind])
        place = behind
    if place != len(told):
        raise AssertionError(f"the counts lead to {place}, not to {len(told)}")
    return parts


def ask(*calls):
    """Each call's answer, a list each, all on one new desk."""
    return take_apart(answers([number for call in calls for number in call]))


def last(*calls):
    return ask(*calls)[-1]


# A full look at a desk of three records through the calls: groups, ties, sure pairs.
LOOK = [least(), nth(0), nth(1), nth(2), sure()]

# Three records, uneven votes on every pair, one pair ruled.
LAID = [
    records(3),
    vote(1, 2, 5, 1),
    vote(1, 3, 2, 9),
    vote(2, 3, 4, 3),
    rule(1, 2, 1),
]


def votes_and_rules(size):
    """Calls whose answers hang on every pair's votes and rule, whatever stands before them.

    rule itself tells the rule that was there; then, with one pair ruled at a time and all others
    free, the cheapest cost tells of the votes.
    """
    calls = []
    for low in range(1, size + 1):
        for high in range(low + 1, size + 1):
            calls.append(rule(low, high, 0))
    for low in range(1, size + 1):
        for high in range(low + 1, size + 1):
            for kind in (1, 2, 0):
                calls.append(rule(low, high, kind))
                calls.append(least())
    return calls
