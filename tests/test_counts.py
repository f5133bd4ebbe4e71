"""counts; and, by it, that no call changes what it ought not to."""

import unittest

from tests.helper import (
    LAID, LOOK, TOP, TORN, all_pairs, ask, chain, cost, counts, greedy, last, least, margin, nth, records, rule, sure,
    vote, votes_and_rules, without,
)

ASKING = [
    least(), nth(0), nth(TOP), sure(), margin(1, 2), margin(3, 1), cost(1, 1, 2), cost(1, 1, 2, 2), chain(0), chain(3),
    chain(TOP), greedy(), without(1), without(2), without(3), counts(),
]

# Refused with three or four records, whatever is voted and ruled.
REFUSED = [
    (records(0), -1), (records(1), -1), (records(8), -1), (records(TOP), -1),
    (vote(1, 1, 7, 7), -3), (vote(0, 2, 7, 7), -3), (vote(5, 1, 7, 7), -3), (vote(1, TOP, TOP, 7), -3),
    (vote(1, 2, 1001, 7), -1), (vote(2, 1, 7, TOP), -1),
    (rule(2, 2, 2), -3), (rule(3, 0, 2), -3), (rule(5, 2, TOP), -3), (rule(1, 2, 3), -1), (rule(3, 1, TOP), -1),
    (margin(1, 1), -3), (margin(0, 1), -3), (margin(2, 5), -3), (margin(TOP, TOP), -3),
    (cost(), -1), (cost(1, 2), -1), (cost(1, 2, 3, 4, 5), -1), (cost(0, 1, 101), -1), (cost(0, 1, 2, 101), -1),
    (cost(*[0] * 100), -1), (without(0), -3), (without(5), -3), (without(TOP), -3),
]


class Counts(unittest.TestCase):
    def test_at_the_beginning(self):
        self.assertEqual(ask(counts()), [[2, 0, 0, 0]])

    def test_what_records_left(self):
        for n in range(2, 8):
            self.assertEqual(last(records(n), counts()), [n] + [0, 0, 0] * (n * (n - 1) // 2))
        self.assertEqual(last(*LAID, records(3), counts()), [3] + [0] * 9)
        self.assertEqual(last(*LAID, records(2), counts()), [2, 0, 0, 0])
        self.assertEqual(last(*LAID, records(4), counts()), [4] + [0] * 18)

    def test_what_vote_left(self):
        self.assertEqual(last(vote(2, 1, 1000, 999), counts()), [2, 1000, 999, 0])
        self.assertEqual(last(vote(1, 2, 8, 9), vote(2, 1, 3, 4), counts()), [2, 3, 4, 0])
        self.assertEqual(last(rule(1, 2, 2), vote(1, 2, 8, 9), counts()), [2, 8, 9, 2])

    def test_what_rule_left(self):
        told = ask(vote(1, 2, 8, 9), rule(2, 1, 1), counts(), rule(1, 2, 2), counts(), rule(1, 2, 0), counts())
        self.assertEqual(told[2::2], [[2, 8, 9, 1], [2, 8, 9, 2], [2, 8, 9, 0]])

    def test_pairs_in_order(self):
        self.assertEqual(last(*LAID, counts()), [3, 5, 1, 1, 2, 9, 0, 4, 3, 0])
        line = [vote(j, i, 10 * i + j, 100 * i + j) for i, j in reversed(all_pairs(7))]
        line += [rule(i, j, (i + j) % 3) for i, j in all_pairs(7)]
        expected = [number for i, j in all_pairs(7) for number in (10 * i + j, 100 * i + j, (i + j) % 3)]
        self.assertEqual(last(records(7), *line, counts()), [7] + expected)

    def test_each_pair_is_changed_alone(self):
        for n in range(2, 8):
            for place, (i, j) in enumerate(all_pairs(n)):
                expected = [n] + [0, 0, 0] * (n * (n - 1) // 2)
                expected[1 + 3 * place:4 + 3 * place] = [6, 7, 2]
                self.assertEqual(last(records(n), vote(i, j, 6, 7), rule(j, i, 2), counts()), expected)


class Unchanged(unittest.TestCase):
    def compare(self, laid, call, refusal=None):
        told = ask(*laid, call, counts(), *LOOK, *votes_and_rules(3))
        if refusal is not None:
            self.assertEqual(told[len(laid)], [refusal], call)
        told.pop(len(laid))
        self.assertEqual(told, ask(*laid, counts(), *LOOK, *votes_and_rules(3)), call)

    def test_asking_changes_nothing(self):
        for call in ASKING:
            self.compare(LAID, call)
            self.compare(TORN + [vote(2, 3, 6, 1), vote(1, 4, 2, 5)], call)

    def test_a_refusal_leaves_all_as_it_was(self):
        for call, refusal in REFUSED:
            self.compare(LAID, call, refusal)
            self.compare(TORN + [vote(2, 3, 6, 1), vote(1, 4, 2, 5)], call, refusal)

    def test_none_keep_to_the_rules(self):
        torn = [records(3), rule(1, 2, 1), rule(2, 3, 1), rule(1, 3, 2), vote(1, 2, 6, 1)]
        for call in (least(), nth(0), nth(TOP), sure(), greedy()):
            self.compare(torn, call, -6)
