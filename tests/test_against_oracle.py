"""Long lines of all twelve calls, against a slow desk written another way."""

import itertools
import random
import unittest

from tests.helper import LAID, TOP, TORN, all_pairs, ask, chain, counts, greedy, least, margin, sure


def partitions(members):
    """All ways to part the members, as lists of lists."""
    if not members:
        return [[]]
    ways = []
    for way in partitions(members[:-1]):
        for place in range(len(way)):
            ways.append([block + [members[-1]] if k == place else block for k, block in enumerate(way)])
        ways.append(way + [[members[-1]]])
    return ways


def numbered(way, size):
    blocks = sorted(way, key=min)
    return [next(k for k, block in enumerate(blocks) if record in block) for record in range(1, size + 1)]


WAYS = {size: sorted(numbered(way, size) for way in partitions(list(range(1, size + 1)))) for size in range(1, 8)}


class SlowDesk:
    def __init__(self, size):
        self.size = size
        self.votes = {}
        self.rules = {}

    def sides(self, way):
        """The pairs that are together, and those that are parted."""
        together, parted = [], []
        for i, j in all_pairs(self.size):
            (together if way[i - 1] == way[j - 1] else parted).append((i, j))
        return together, parted

    def cost(self, way):
        together, parted = self.sides(way)
        against = sum(self.votes.get(pair, (0, 0))[1] for pair in together)
        return against + sum(self.votes.get(pair, (0, 0))[0] for pair in parted)

    def keeps(self, way):
        together, parted = self.sides(way)
        return all(self.rules.get(pair, 0) != 2 for pair in together) and all(
            self.rules.get(pair, 0) != 1 for pair in parted)

    def found(self):
        """All ways that keep to the rules, by what they cost."""
        found = {}
        for way in WAYS[self.size]:
            if self.keeps(way):
                found.setdefault(self.cost(way), []).append(way)
        return found

    def answer(self, call):
        number, given = call[0], call[1:]
        if number == 0:
            if not 2 <= given[0] <= 7:
                return [-1]
            self.__init__(given[0])
            return [0]
        if number in (1, 2):
            return self.change(number, given)
        if number in (3, 4, 5):
            return self.best(number, given)
        if number == 7:
            return self.priced(given[1:])
        return {6: self.margin, 8: self.chain, 9: self.greedy, 10: self.without, 11: self.counts}[number](*given)

    def best(self, number, given):
        best = min(self.found().items(), default=None)
        if best is None:
            return [-6]
        cost, ways = best
        if number == 3:
            return [cost, len(ways), *ways[0]]
        if number == 4:
            return [cost, *ways[given[0]]] if given[0] < len(ways) else [-5]
        told = []
        for side in (0, 1):
            sure = set(self.sides(ways[0])[side])
            for way in ways:
                sure &= set(self.sides(way)[side])
            told += [len(sure)] + [number for pair in sorted(sure) for number in pair]
        return told

    def margin(self, i, j):
        if tuple(sorted((i, j))) not in all_pairs(self.size):
            return [-3]
        costs = ([], [])
        for cost, ways in self.found().items():
            for way in ways:
                costs[way[i - 1] != way[j - 1]].append(cost)
        return [number for side in costs for number in ([1, min(side)] if side else [0])]

    def priced(self, marks):
        if len(marks) != self.size or any(mark > 100 for mark in marks):
            return [-1]
        blocks = [[k + 1 for k, other in enumerate(marks) if other == mark] for mark in set(marks)]
        way = numbered(blocks, self.size)
        return [self.cost(way), int(self.keeps(way)), *way]

    def flooded(self, links):
        """Each record with the lowest that can be reached from it."""
        lowest = []
        for record in range(1, self.size + 1):
            reached = {record}
            while True:
                more = reached | {k for link in links if reached & set(link) for k in link}
                if more == reached:
                    break
                reached = more
            lowest.append(min(reached))
        return lowest

    def chain(self, t):
        links = []
        for pair in all_pairs(self.size):
            pro, contra = self.votes.get(pair, (0, 0))
            if pro - contra >= t or self.rules.get(pair, 0) == 1:
                links.append(pair)
        return self.priced(self.flooded(links))

    def greedy(self):
        lowest = self.flooded([pair for pair, kind in self.rules.items() if kind == 1])
        blocks = [[k + 1 for k in range(self.size) if lowest[k] == low] for low in sorted(set(lowest))]
        if not self.keeps(numbered(blocks, self.size)):
            return [-6]
        steps = 0
        while True:
            now = self.cost(numbered(blocks, self.size))
            found = []
            for one, other in itertools.combinations(range(len(blocks)), 2):
                # What two groups gain is by how much less all groups cost with them as one.
                joined = [block for k, block in enumerate(blocks) if k not in (one, other)]
                joined = sorted(joined + [sorted(blocks[one] + blocks[other])])
                gain = now - self.cost(numbered(joined, self.size))
                if gain > 0 and self.keeps(numbered(joined, self.size)):
                    found.append((-gain, one, other, joined))
            if not found:
                return [steps, now, *numbered(blocks, self.size)]
            blocks = min(found)[3]
            steps += 1

    def without(self, i):
        if not 1 <= i <= self.size:
            return [-3]
        rest = SlowDesk(self.size - 1)
        for here, there in ((self.votes, rest.votes), (self.rules, rest.rules)):
            for pair, what in here.items():
                if i not in pair:
                    there[tuple(k - (k > i) for k in pair)] = what
        return [min(rest.found(), default=-6)]

    def counts(self):
        told = [self.size]
        for pair in all_pairs(self.size):
            told += [*self.votes.get(pair, (0, 0)), self.rules.get(pair, 0)]
        return told

    def change(self, number, given):
        pair = tuple(sorted(given[:2]))
        if pair[0] == pair[1] or pair[0] < 1 or pair[1] > self.size:
            return [-3]
        if max(given[2:]) > (1000 if number == 1 else 2):
            return [-1]
        if number == 1:
            self.votes[pair] = tuple(given[2:])
            return [0]
        before = self.rules.get(pair, 0)
        self.rules[pair] = given[2]
        return [before]


class LineMaker:
    """Calls in any order, most of them sound, so that refusals stand among answers."""

    def __init__(self, source, most_votes):
        self.source = source
        self.most_votes = most_votes
        self.size = 2

    def record(self):
        if self.source.random() < 0.04:
            return self.source.choice([0, self.size + 1, TOP])
        return self.source.randrange(1, self.size + 1)

    def pair(self):
        if self.source.random() < 0.06:
            strange = [self.source.choice([0, 1, self.size + 1, TOP]), self.record()]
            return self.source.sample(strange, 2)
        return self.source.sample(range(1, self.size + 1), 2)

    def records(self):
        n = self.source.choice([self.size, self.source.randrange(2, 8), self.source.choice([0, 1, 8, TOP])])
        self.size = n if 2 <= n <= 7 else self.size
        return [0, n]

    def vote(self):
        votes = [self.source.randrange(0, self.most_votes + 1) for side in range(2)]
        if self.source.random() < 0.05:
            votes[self.source.randrange(2)] = self.source.choice([1000, 1001, TOP])
        return [1, *self.pair(), *votes]

    def rule(self):
        return [2, *self.pair(), self.source.choice([0, 0, 0, 1, 1, 2, 2, self.source.choice([3, TOP])])]

    def cost(self):
        many = self.size
        if self.source.random() < 0.1:
            many = self.source.choice([0, self.size - 1, self.size + 1, 100])
        numbers = [self.source.choice([0, 1, 2, 11, 99, 100]) for k in range(many)]
        if numbers and self.source.random() < 0.1:
            numbers[self.source.randrange(many)] = self.source.choice([101, TOP])
        return [7, many, *numbers]

    def call(self, number):
        if number in (0, 1, 2, 7):
            return {0: self.records, 1: self.vote, 2: self.rule, 7: self.cost}[number]()
        if number == 4:
            return [4, self.source.choice([0, 1, 2, 3, 10, 100, TOP])]
        if number == 6:
            return [6, *self.pair()]
        if number == 8:
            return [8, self.source.choice([0, 1, 2, self.source.randrange(self.most_votes + 2), TOP])]
        if number == 10:
            return [10, self.record()]
        return [number]

    def laid_line(self, length):
        """Many votes and some rules on one size, so that the desk is full."""
        self.size = self.source.randrange(2, 8)
        line = [[0, self.size]]
        asking = [3, 4, 5, 6, 6, 7, 7, 8, 8, 9, 9, 10, 10, 11]
        while len(line) < length:
            changing = [1] * 24 + [2] * 6 + [0] * (self.source.random() < 0.1)
            line.append(self.call(self.source.choice(changing + asking)))
        return line

    def any_line(self, length):
        return [self.call(self.source.randrange(12)) for k in range(length)]


class AgainstOracle(unittest.TestCase):
    def compare(self, line):
        desk = SlowDesk(2)
        expected = [desk.answer(call) for call in line]
        self.assertEqual(ask(*line), expected, line)

    def test_few_votes_many_ties(self):
        for seed in range(80):
            self.compare(LineMaker(random.Random(seed), 2).laid_line(60))

    def test_some_votes(self):
        for seed in range(500, 560):
            self.compare(LineMaker(random.Random(seed), 9).laid_line(60))

    def test_many_votes(self):
        for seed in range(1000, 1060):
            self.compare(LineMaker(random.Random(seed), 1000).laid_line(60))

    def test_all_twelve_calls_in_any_order(self):
        for seed in range(2000, 2120):
            source = random.Random(seed)
            self.compare(LineMaker(source, source.choice([1, 3, 1000])).any_line(source.randrange(1, 61)))

    def test_each_call_behind_each(self):
        for laid in ([], LAID, TORN):
            for first, second in itertools.product(range(12), repeat=2):
                maker = LineMaker(random.Random(12 * first + second), 5)
                maker.size = laid[0][1] if laid else 2
                self.compare(laid + [maker.call(first), maker.call(second), counts()])


class WhatHolds(unittest.TestCase):
    """What the calls' answers on one desk have to do with one another."""

    def desks(self):
        for seed in range(60):
            source = random.Random(seed)
            maker = LineMaker(source, source.choice([2, 20]))
            maker.size = source.randrange(2, 8)
            pairs = all_pairs(maker.size)
            line = [[0, maker.size]] + [[1, i, j, source.randrange(9), source.randrange(9)] for i, j in pairs]
            line += [[2, i, j, source.choice([1, 2, 2])] for i, j in source.sample(pairs, len(pairs) // 4)]
            yield line, pairs

    def test_nothing_that_keeps_to_the_rules_costs_less(self):
        for line, pairs in self.desks():
            best, stepped, *chained = ask(*line, least(), greedy(), *[chain(t) for t in range(10)])[len(line):]
            self.assertEqual(best == [-6], stepped == [-6])
            if best != [-6]:
                self.assertGreaterEqual(stepped[1], best[0])
            for told in chained:
                self.assertTrue(told[1] == 0 or told[0] >= best[0] >= 0)

    def test_margins_say_what_is_sure(self):
        for line, pairs in self.desks():
            best, told = ask(*line, least(), sure())[len(line):]
            together, parted = [], []
            for i, j in pairs:
                halves = ask(*line, margin(i, j))[-1]
                if best == [-6]:
                    self.assertEqual(halves, [0, 0])
                    continue
                if halves[:2] == [1, best[0]] and halves[2:] != [1, best[0]]:
                    together += [i, j]
                elif halves[:2] != [1, best[0]] and halves[-2:] == [1, best[0]]:
                    parted += [i, j]
                else:
                    self.assertEqual(halves, [1, best[0]] * 2)
            if best == [-6]:
                self.assertEqual(told, [-6])
            else:
                self.assertEqual(told, [len(together) // 2] + together + [len(parted) // 2] + parted)
