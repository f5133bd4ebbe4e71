import unittest

from tests.helper import LAID, LOOK, NO_PAIRS, TOP, ask, last, least, records, rule, vote, votes_and_rules


class Rule(unittest.TestCase):
    def test_answers_the_rule_before(self):
        told = ask(*[rule(1, 2, kind) for kind in (1, 2, 0, 2, 1, 1, 0, 0)])
        self.assertEqual(told, [[0], [1], [2], [0], [2], [1], [1], [0]])

    def test_either_order_is_one_pair(self):
        told = ask(records(7), rule(7, 1, 1), rule(1, 7, 2), rule(7, 1, 0), rule(1, 7, 0))
        self.assertEqual(told[1:], [[0], [1], [2], [0]])
        self.assertEqual(last(records(3), rule(3, 2, 2), least()), [0, 3, 0, 0, 1])

    def test_the_pair_alone_is_ruled(self):
        told = ask(records(3), rule(1, 2, 1), rule(1, 3, 2), rule(2, 3, 0), rule(1, 2, 0), rule(1, 3, 0))
        self.assertEqual(told[1:], [[0], [0], [0], [1], [2]])

    def test_must_be_together(self):
        self.assertEqual(last(vote(1, 2, 0, 8), rule(1, 2, 1), least()), [8, 1, 0, 0])

    def test_must_not_be_together(self):
        self.assertEqual(last(vote(1, 2, 8, 0), rule(1, 2, 2), least()), [8, 1, 0, 1])

    def test_free_again(self):
        self.assertEqual(last(vote(1, 2, 8, 1), rule(1, 2, 2), rule(1, 2, 0), least()), [1, 1, 0, 0])

    def test_leaves_the_votes(self):
        told = ask(vote(1, 2, 8, 5), rule(1, 2, 1), least(), rule(1, 2, 2), least(), rule(1, 2, 0), least())
        self.assertEqual(told[2::2], [[5, 1, 0, 0], [8, 1, 0, 1], [5, 1, 0, 0]])

    def test_above_2(self):
        for kind in (3, 4, 1000, TOP):
            self.assertEqual(last(rule(1, 2, kind)), [-1])

    def test_no_pair(self):
        for i, j in NO_PAIRS:
            self.assertEqual(last(records(3), rule(i, j, 1)), [-3])

    def test_one_and_n_are_records(self):
        for n in range(2, 8):
            self.assertEqual(ask(records(n), rule(1, n, 2), rule(n, 1, 1))[1:], [[0], [2]])
            self.assertEqual(ask(records(n), rule(n, n, 2), rule(n, n + 1, 1))[1:], [[-3], [-3]])

    def test_no_pair_is_told_first(self):
        for i, j in ((1, 1), (0, 2), (2, 0), (1, 3), (TOP, 1)):
            for kind in (3, TOP):
                self.assertEqual(last(rule(i, j, kind)), [-3])

    def test_a_refusal_leaves_all_as_it_was(self):
        laid = ask(*LAID, *LOOK, *votes_and_rules(3))
        for call, number in ((rule(1, 2, 3), -1), (rule(3, 1, TOP), -1), (rule(2, 2, 2), -3),
                             (rule(0, 1, 2), -3), (rule(3, 4, 2), -3)):
            told = ask(*LAID, call, *LOOK, *votes_and_rules(3))
            self.assertEqual(told.pop(len(LAID)), [number])
            self.assertEqual(told, laid)
