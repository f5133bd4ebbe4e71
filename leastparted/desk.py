"""A desk: records, what is voted and ruled of each pair of them, and the cheapest groups.

Groups are a list with a number for each record: record 1 stands at place 0.
A pair is a tuple, the lower number first.
"""

RECORDS = 0
VOTE = 1
RULE = 2
LEAST = 3
NTH = 4

# By a call's number: how many places it takes in the list, its own number's among them.
LENGTHS = (2, 5, 4, 1, 2, 1)

FEWEST_RECORDS = 2
MOST_RECORDS = 7
MOST_VOTES = 1000

FREE = 0
MUST = 1
MUST_NOT = 2

OUT_OF_BOUNDS = -1
NO_PAIR = -3
NO_SUCH_ONE = -5
NONE_KEEP = -6


def all_pairs(size):
    """All pairs of so many records, in order."""
    pairs = []
    for low in range(1, size + 1):
        for high in range(low + 1, size + 1):
            pairs.append((low, high))
    return pairs


def all_groups(size):
    """All ways to part so many records, each once, in order."""
    ways = [[]]
    for place in range(size):
        longer = []
        for groups in ways:
            # One number beyond the highest that was met: the record may open a group of its own.
            for number in range(max(groups, default=-1) + 2):
                longer.append(groups + [number])
        ways = longer
    return ways


def is_together(groups, pair):
    return groups[pair[0] - 1] == groups[pair[1] - 1]


def together_in_all(ways, pair):
    return all([is_together(groups, pair) for groups in ways])


def parted_in_all(ways, pair):
    return not any([is_together(groups, pair) for groups in ways])


def told_pairs(pairs):
    """How many pairs there are, then each one's two numbers."""
    told = [len(pairs)]
    for pair in pairs:
        told.extend(pair)
    return told


class Desk:
    """Each method called like a call gives back what that answers, as a list of numbers."""

    def __init__(self):
        self.begin(FEWEST_RECORDS)

    def begin(self, size):
        self.size = size
        self.pairs = all_pairs(size)
        self.pro = {}
        self.contra = {}
        self.rules = {}
        for pair in self.pairs:
            self.pro[pair] = 0
            self.contra[pair] = 0
            self.rules[pair] = FREE

    def is_pair(self, pair):
        # The pairs of the desk are the keys, so neither strange records nor one record twice are found.
        return pair in self.rules

    def cost_of(self, groups):
        return sum([self.contra[pair] if is_together(groups, pair) else self.pro[pair] for pair in self.pairs])

    def keeps(self, groups):
        for pair in self.pairs:
            if self.rules[pair] == MUST and not is_together(groups, pair):
                return False
            if self.rules[pair] == MUST_NOT and is_together(groups, pair):
                return False
        return True

    def cheapest(self):
        """The cheapest groups, in order; an empty list where no groups keep to the rules."""
        kept = [groups for groups in all_groups(self.size) if self.keeps(groups)]
        costs = [self.cost_of(groups) for groups in kept]
        lowest = min(costs, default=0)
        return [groups for groups, cost in zip(kept, costs) if cost == lowest]

    def records(self, n):
        if n < FEWEST_RECORDS or n > MOST_RECORDS:
            return [OUT_OF_BOUNDS]
        self.begin(n)
        return [0]

    def vote(self, i, j, pro, contra):
        pair = (min(i, j), max(i, j))
        if not self.is_pair(pair):
            return [NO_PAIR]
        if pro > MOST_VOTES or contra > MOST_VOTES:
            return [OUT_OF_BOUNDS]
        self.pro[pair] = pro
        self.contra[pair] = contra
        return [0]

    def rule(self, i, j, rule):
        pair = (min(i, j), max(i, j))
        if not self.is_pair(pair):
            return [NO_PAIR]
        if rule > MUST_NOT:
            return [OUT_OF_BOUNDS]
        before = self.rules[pair]
        self.rules[pair] = rule
        return [before]

    def least(self):
        ways = self.cheapest()
        if len(ways) == 0:
            return [NONE_KEEP]
        return [self.cost_of(ways[0]), len(ways)] + ways[0]

    def nth(self, k):
        ways = self.cheapest()
        if len(ways) == 0:
            return [NONE_KEEP]
        if k >= len(ways):
            return [NO_SUCH_ONE]
        return [self.cost_of(ways[k])] + ways[k]

    def sure(self):
        ways = self.cheapest()
        if len(ways) == 0:
            return [NONE_KEEP]
        together = [pair for pair in self.pairs if together_in_all(ways, pair)]
        parted = [pair for pair in self.pairs if parted_in_all(ways, pair)]
        return told_pairs(together) + told_pairs(parted)


def call_length(number):
    if number >= len(LENGTHS):
        raise NotImplementedError(f"call {number}")
    return LENGTHS[number]


def answer(desk, call):
    """What the desk answers to one call, which is its number and then what it takes."""
    number = call[0]
    if number == RECORDS:
        return desk.records(call[1])
    if number == VOTE:
        return desk.vote(call[1], call[2], call[3], call[4])
    if number == RULE:
        return desk.rule(call[1], call[2], call[3])
    if number == LEAST:
        return desk.least()
    if number == NTH:
        return desk.nth(call[1])
    # Of the calls that have a length, sure alone is left.
    return desk.sure()


def answers(calls):
    """All answers to the calls on a new desk, each behind how many numbers it has."""
    desk = Desk()
    told = []
    place = 0
    while place < len(calls):
        behind = place + call_length(calls[place])
        one = answer(desk, calls[place:behind])
        told.append(len(one))
        told.extend(one)
        place = behind
    return told
