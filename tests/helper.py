"""What the tests share: calls by their names, and answers taken apart call by call."""

from leastparted.desk import answers

TOP = 4294967295


def records(n):
    return [0, n]


def vote(i, j, pro, contra):
    return [1, i, j, pro, contra]


def rule(i, j, kind):
    return [2, i, j, kind]


def least():
    return [3]


def nth(k):
    return [4, k]


def sure():
    return [5]


def margin(i, j):
    return [6, i, j]


def cost(*numbers):
    return [7, len(numbers), *numbers]


def chain(t):
    return [8, t]


def greedy():
    return [9]


def without(i):
    return [10, i]


def counts():
    return [11]


def take_apart(told):
    """The answers one by one; fails unless the counts lead just to the list's end."""
    parts = []
    place = 0
    while place < len(told):
        behind = place + 1 + told[place]
        parts.append(told[place + 1:behind])
        place = behind
    if place != len(told):
        raise AssertionError(f"the counts lead to {place}, not to {len(told)}")
    return parts


def ask(*calls):
    """Each call's answer, a list each, all on one new desk."""
    return take_apart(answers([number for call in calls for number in call]))


def last(*calls):
    return ask(*calls)[-1]


def all_pairs(size):
    return [(i, j) for i in range(1, size + 1) for j in range(i + 1, size + 1)]


# A full look at a desk through all calls that only ask.
LOOK = [
    least(), nth(0), nth(1), nth(2), sure(), margin(1, 2), cost(4, 2, 4), chain(0), chain(1), greedy(), without(1),
    counts(),
]

# Three records, uneven votes on every pair, one pair ruled.
LAID = [
    records(3),
    vote(1, 2, 5, 1),
    vote(1, 3, 2, 9),
    vote(2, 3, 4, 3),
    rule(1, 2, 1),
]

# Rule 1 leads from 1 over 4 and 2 to 3, and rule 2 keeps 1 from 3.
TORN = [records(4), rule(1, 4, 1), rule(2, 4, 1), rule(2, 3, 1), rule(1, 3, 2)]

# Pairs that there are not where there are three records.
NO_PAIRS = (
    (0, 1), (1, 0), (0, 0), (1, 1), (3, 3), (1, 4), (4, 1), (4, 4), (4, 5), (0, 4), (1, TOP), (TOP, 1), (TOP, TOP),
    (0, TOP),
)


def like_like_unlike(against):
    """1 is like 2, 2 like 3, and so much is against 1 and 3."""
    return [records(3), vote(1, 2, 5, 0), vote(2, 3, 4, 0), vote(1, 3, 0, against)]


def votes_and_rules(size):
    """Calls whose answers hang on every pair's votes and rule, whatever stands before them.

    rule itself tells the rule that was there; then, with one pair ruled at a time and all others
    free, the cheapest cost tells of the votes.
    """
    calls = [rule(i, j, 0) for i, j in all_pairs(size)]
    for i, j in all_pairs(size):
        for kind in (1, 2, 0):
            calls.append(rule(i, j, kind))
            calls.append(least())
    return calls
