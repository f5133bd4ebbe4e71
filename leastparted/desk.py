"""A desk: records, what is voted and ruled of each pair of them, and the groups that come of it.

Groups are a list with a number for each record: record 1 stands at place 0.
A pair is a tuple, the lower number first.
"""

RECORDS = 0
VOTE = 1
RULE = 2
LEAST = 3
NTH = 4
SURE = 5
MARGIN = 6
COST = 7
CHAIN = 8
GREEDY = 9
WITHOUT = 10

# By a call's number: how many places it takes in the list, its own number's among them. Of cost it is
# those up to how many numbers it has.
LENGTHS = (2, 5, 4, 1, 2, 1, 3, 2, 2, 1, 2, 1)

FEWEST_RECORDS = 2
MOST_RECORDS = 7
MOST_VOTES = 1000
HIGHEST_MARK = 100

FREE = 0
MUST = 1
MUST_NOT = 2

OUT_OF_BOUNDS = -1
NO_RECORD = -3
NO_SUCH_ONE = -5
NONE_KEEP = -6


def all_pairs(size):
    """All pairs of so many records, in order."""
    pairs = []
    for low in range(1, size + 1):
        for high in range(low + 1, size + 1):
            pairs.append((low, high))
    return pairs


def all_groups(size):
    """All ways to part so many records, each once, in order."""
    ways = [[]]
    for place in range(size):
        longer = []
        for groups in ways:
            # One number beyond the highest that was met: the record may open a group of its own.
            for number in range(max(groups, default=-1) + 2):
                longer.append(groups + [number])
        ways = longer
    return ways


def groups_of(marks):
    """Groups as they are told, of a mark for each record: who has the same is together."""
    numbers = {}
    groups = []
    for mark in marks:
        if mark not in numbers:
            numbers[mark] = len(numbers)
        groups.append(numbers[mark])
    return groups


def with_joined(groups, one, other):
    """The groups, with those of these two numbers as one."""
    return groups_of([one if number == other else number for number in groups])


def linked_groups(size, links):
    """So many records in groups: together are just those whom these pairs link, over others too."""
    groups = list(range(size))
    for pair in links:
        groups = with_joined(groups, groups[pair[0] - 1], groups[pair[1] - 1])
    return groups


def is_together(groups, pair):
    return groups[pair[0] - 1] == groups[pair[1] - 1]


def together_in_all(ways, pair):
    return all([is_together(groups, pair) for groups in ways])


def parted_in_all(ways, pair):
    return not any([is_together(groups, pair) for groups in ways])


def told_pairs(pairs):
    """How many pairs there are, then each one's two numbers."""
    told = [len(pairs)]
    for pair in pairs:
        told.extend(pair)
    return told


def told_lowest(costs):
    """1 and the lowest of the costs; 0 alone where there are none."""
    if len(costs) == 0:
        return [0]
    return [1, min(costs)]


class Desk:
    """Each method called like a call gives back what that answers, as a list of numbers."""

    def __init__(self):
        self.begin(FEWEST_RECORDS)

    def begin(self, size):
        self.size = size
        self.pairs = all_pairs(size)
        self.pro = {}
        self.contra = {}
        self.rules = {}
        for pair in self.pairs:
            self.pro[pair] = 0
            self.contra[pair] = 0
            self.rules[pair] = FREE

    def is_pair(self, pair):
        # The pairs of the desk are the keys, so neither strange records nor one record twice are found.
        return pair in self.rules

    def cost_of(self, groups):
        return sum([self.contra[pair] if is_together(groups, pair) else self.pro[pair] for pair in self.pairs])

    def keeps(self, groups):
        for pair in self.pairs:
            if self.rules[pair] == MUST and not is_together(groups, pair):
                return False
            if self.rules[pair] == MUST_NOT and is_together(groups, pair):
                return False
        return True

    def all_that_keep(self):
        return [groups for groups in all_groups(self.size) if self.keeps(groups)]

    def cheapest(self):
        """The cheapest groups, in order; an empty list where no groups keep to the rules."""
        kept = self.all_that_keep()
        costs = [self.cost_of(groups) for groups in kept]
        lowest = min(costs, default=0)
        return [groups for groups, cost in zip(kept, costs) if cost == lowest]

    def told_with_cost(self, groups):
        return [self.cost_of(groups), 1 if self.keeps(groups) else 0] + groups

    def is_joined(self, pair, t):
        return self.rules[pair] == MUST or self.pro[pair] >= self.contra[pair] + t

    def joined_by_rules(self):
        return linked_groups(self.size, [pair for pair in self.pairs if self.rules[pair] == MUST])

    def pairs_across(self, groups, low, high):
        """The pairs with one record in each of two groups."""
        across = []
        for pair in self.pairs:
            first = groups[pair[0] - 1]
            second = groups[pair[1] - 1]
            if min(first, second) == low and max(first, second) == high:
                across.append(pair)
        return across

    def may_join(self, across):
        return all([self.rules[pair] != MUST_NOT for pair in across])

    def gain_of(self, across):
        return sum([self.pro[pair] - self.contra[pair] for pair in across])

    def next_step(self, groups):
        """The numbers of the two groups that are joined next; None at the end."""
        best = None
        most = 0
        count = max(groups) + 1
        for low in range(count):
            for high in range(low + 1, count):
                across = self.pairs_across(groups, low, high)
                gain = self.gain_of(across)
                # The same gain is not enough, so that of several the first stays.
                if gain > most and self.may_join(across):
                    best = (low, high)
                    most = gain
        return best

    def without_record(self, i):
        """A desk on which nothing is voted or ruled of record i, all else as here."""
        other = Desk()
        other.begin(self.size)
        for pair in self.pairs:
            if i not in pair:
                other.pro[pair] = self.pro[pair]
                other.contra[pair] = self.contra[pair]
                other.rules[pair] = self.rules[pair]
        return other

    def records(self, n):
        if n < FEWEST_RECORDS or n > MOST_RECORDS:
            return [OUT_OF_BOUNDS]
        self.begin(n)
        return [0]

    def vote(self, i, j, pro, contra):
        pair = (min(i, j), max(i, j))
        if not self.is_pair(pair):
            return [NO_RECORD]
        if pro > MOST_VOTES or contra > MOST_VOTES:
            return [OUT_OF_BOUNDS]
        self.pro[pair] = pro
        self.contra[pair] = contra
        return [0]

    def rule(self, i, j, rule):
        pair = (min(i, j), max(i, j))
        if not self.is_pair(pair):
            return [NO_RECORD]
        if rule > MUST_NOT:
            return [OUT_OF_BOUNDS]
        before = self.rules[pair]
        self.rules[pair] = rule
        return [before]

    def least(self):
        ways = self.cheapest()
        if len(ways) == 0:
            return [NONE_KEEP]
        return [self.cost_of(ways[0]), len(ways)] + ways[0]

    def nth(self, k):
        ways = self.cheapest()
        if len(ways) == 0:
            return [NONE_KEEP]
        if k >= len(ways):
            return [NO_SUCH_ONE]
        return [self.cost_of(ways[k])] + ways[k]

    def sure(self):
        ways = self.cheapest()
        if len(ways) == 0:
            return [NONE_KEEP]
        together = [pair for pair in self.pairs if together_in_all(ways, pair)]
        parted = [pair for pair in self.pairs if parted_in_all(ways, pair)]
        return told_pairs(together) + told_pairs(parted)

    def margin(self, i, j):
        pair = (min(i, j), max(i, j))
        if not self.is_pair(pair):
            return [NO_RECORD]
        kept = self.all_that_keep()
        together = [self.cost_of(groups) for groups in kept if is_together(groups, pair)]
        parted = [self.cost_of(groups) for groups in kept if not is_together(groups, pair)]
        return told_lowest(together) + told_lowest(parted)

    def cost(self, marks):
        if len(marks) != self.size or max(marks) > HIGHEST_MARK:
            return [OUT_OF_BOUNDS]
        return self.told_with_cost(groups_of(marks))

    def chain(self, t):
        links = [pair for pair in self.pairs if self.is_joined(pair, t)]
        return self.told_with_cost(linked_groups(self.size, links))

    def greedy(self):
        groups = self.joined_by_rules()
        if not self.keeps(groups):
            return [NONE_KEEP]
        steps = 0
        step = self.next_step(groups)
        while step is not None:
            groups = with_joined(groups, step[0], step[1])
            steps += 1
            step = self.next_step(groups)
        return [steps, self.cost_of(groups)] + groups

    def without(self, i):
        if i < 1 or i > self.size:
            return [NO_RECORD]
        # A record of which nothing is voted or ruled costs nothing wherever it is: all others' groups
        # cost the same with it as without it.
        other = self.without_record(i)
        ways = other.cheapest()
        if len(ways) == 0:
            return [NONE_KEEP]
        return [other.cost_of(ways[0])]

    def counts(self):
        told = [self.size]
        for pair in self.pairs:
            told.extend([self.pro[pair], self.contra[pair], self.rules[pair]])
        return told


def call_length(calls, place):
    """How many places the call that begins at this one takes."""
    number = calls[place]
    if number == COST:
        return LENGTHS[number] + calls[place + 1]
    return LENGTHS[number]


def answer(desk, call):
    """What the desk answers to one call, which is its number and then what it takes."""
    number = call[0]
    if number == RECORDS:
        return desk.records(call[1])
    if number == VOTE:
        return desk.vote(call[1], call[2], call[3], call[4])
    if number == RULE:
        return desk.rule(call[1], call[2], call[3])
    if number == LEAST:
        return desk.least()
    if number == NTH:
        return desk.nth(call[1])
    if number == SURE:
        return desk.sure()
    if number == MARGIN:
        return desk.margin(call[1], call[2])
    if number == COST:
        return desk.cost(call[LENGTHS[COST]:])
    if number == CHAIN:
        return desk.chain(call[1])
    if number == GREEDY:
        return desk.greedy()
    if number == WITHOUT:
        return desk.without(call[1])
    # Of the twelve calls counts alone is left.
    return desk.counts()


def answers(calls):
    """All answers to the calls on a new desk, each behind how many numbers it has."""
    desk = Desk()
    told = []
    place = 0
    while place < len(calls):
        behind = place + call_length(calls, place)
        one = answer(desk, calls[place:behind])
        told.append(len(one))
        told.extend(one)
        place = behind
    return told
