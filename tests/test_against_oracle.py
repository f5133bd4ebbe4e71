"""Long lines of mixed calls, against a slow desk written another way."""

import random
import unittest

from tests.helper import TOP, ask


def partitions(members):
    """All ways to part the members, as lists of lists."""
    if not members:
        return [[]]
    ways = []
    for way in partitions(members[:-1]):
        for place in range(len(way)):
            ways.append([block + [members[-1]] if k == place else block for k, block in enumerate(way)])
        ways.append(way + [[members[-1]]])
    return ways


def numbered(way, size):
    blocks = sorted(way, key=min)
    return [next(k for k, block in enumerate(blocks) if record in block) for record in range(1, size + 1)]


WAYS = {size: sorted(numbered(way, size) for way in partitions(list(range(1, size + 1)))) for size in range(2, 8)}


class SlowDesk:
    def __init__(self, size):
        self.size = size
        self.votes = {}
        self.rules = {}

    def sides(self, way):
        """The pairs that are together, and those that are parted."""
        together, parted = [], []
        for i in range(1, self.size + 1):
            for j in range(i + 1, self.size + 1):
                (together if way[i - 1] == way[j - 1] else parted).append((i, j))
        return together, parted

    def cheapest(self):
        found = {}
        for way in WAYS[self.size]:
            together, parted = self.sides(way)
            if any(self.rules.get(pair, 0) == 2 for pair in together):
                continue
            if any(self.rules.get(pair, 0) == 1 for pair in parted):
                continue
            cost = sum(self.votes.get(pair, (0, 0))[1] for pair in together)
            cost += sum(self.votes.get(pair, (0, 0))[0] for pair in parted)
            found.setdefault(cost, []).append(way)
        return min(found.items()) if found else None

    def answer(self, call):
        number, given = call[0], call[1:]
        if number == 0:
            if not 2 <= given[0] <= 7:
                return [-1]
            self.__init__(given[0])
            return [0]
        if number in (1, 2):
            return self.change(number, given)
        best = self.cheapest()
        if best is None:
            return [-6]
        cost, ways = best
        if number == 3:
            return [cost, len(ways), *ways[0]]
        if number == 4:
            return [cost, *ways[given[0]]] if given[0] < len(ways) else [-5]
        told = []
        for side in (0, 1):
            sure = set(self.sides(ways[0])[side])
            for way in ways:
                sure &= set(self.sides(way)[side])
            told += [len(sure)] + [number for pair in sorted(sure) for number in pair]
        return told

    def change(self, number, given):
        pair = tuple(sorted(given[:2]))
        if pair[0] == pair[1] or pair[0] < 1 or pair[1] > self.size:
            return [-3]
        if max(given[2:]) > (1000 if number == 1 else 2):
            return [-1]
        if number == 1:
            self.votes[pair] = tuple(given[2:])
            return [0]
        before = self.rules.get(pair, 0)
        self.rules[pair] = given[2]
        return [before]


def mixed_line(source, most_votes):
    """Up to 60 calls, most of them sound, so that refusals stand among answers."""
    size = source.randrange(2, 8)
    line = [[0, size]]
    while len(line) < 60:
        number = source.choice([1] * 14 + [2] * 5 + [3, 4, 4, 5] + [0] * (source.random() < 0.15))
        i, j = source.randrange(1, size + 1), source.randrange(1, size + 1)
        if source.random() < 0.05:
            i = source.choice([0, size + 1, TOP])
        if number == 0:
            n = source.choice([size, size, source.randrange(2, 8), source.choice([0, 1, 8, TOP])])
            size = n if 2 <= n <= 7 else size
            line.append([0, n])
        elif number == 1:
            votes = [source.randrange(0, most_votes + 1), source.randrange(0, most_votes + 1)]
            if source.random() < 0.05:
                votes[source.randrange(2)] = source.choice([1000, 1001, TOP])
            line.append([1, i, j] + votes)
        elif number == 2:
            line.append([2, i, j, source.choice([0, 0, 0, 1, 2, 2, source.choice([3, TOP])])])
        elif number == 4:
            line.append([4, source.choice([0, 1, 2, 3, 10, 100, TOP])])
        else:
            line.append([number])
    return line


class AgainstOracle(unittest.TestCase):
    def compare(self, seed, most_votes):
        line = mixed_line(random.Random(seed), most_votes)
        desk = SlowDesk(2)
        expected = [desk.answer(call) for call in line]
        self.assertEqual(ask(*line), expected, line)

    def test_few_votes_many_ties(self):
        for seed in range(60):
            self.compare(seed, 2)

    def test_many_votes(self):
        for seed in range(1000, 1060):
            self.compare(seed, 1000)
