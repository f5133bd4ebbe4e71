import unittest

from tests.helper import LAID, LOOK, NO_PAIRS, TOP, ask, last, least, records, rule, vote, votes_and_rules


class Vote(unittest.TestCase):
    def test_for_and_against(self):
        self.assertEqual(ask(vote(1, 2, 7, 3), least()), [[0], [3, 1, 0, 0]])
        self.assertEqual(ask(vote(1, 2, 3, 7), least()), [[0], [3, 1, 0, 1]])

    def test_either_order_is_one_pair(self):
        self.assertEqual(last(vote(1, 2, 7, 3), vote(2, 1, 3, 8), least()), [3, 1, 0, 1])
        self.assertEqual(last(vote(2, 1, 7, 3), vote(1, 2, 3, 8), least()), [3, 1, 0, 1])
        for i, j in ((1, 2), (1, 3), (2, 3), (1, 7), (6, 7)):
            one = ask(records(7), vote(i, j, 6, 2), *LOOK)
            other = ask(records(7), vote(j, i, 6, 2), *LOOK)
            self.assertEqual(one, other)

    def test_the_votes_are_these_not_added(self):
        self.assertEqual(last(vote(1, 2, 9, 5), vote(1, 2, 4, 3), least()), [3, 1, 0, 0])
        self.assertEqual(last(vote(1, 2, 9, 5), vote(1, 2, 0, 0), least()), [0, 2, 0, 0])

    def test_the_pair_alone_is_changed(self):
        told = ask(records(3), vote(2, 3, 0, 4), least())
        self.assertEqual(told[-1], [0, 3, 0, 0, 1])

    def test_leaves_the_rule(self):
        self.assertEqual(last(rule(1, 2, 1), vote(1, 2, 0, 5), least()), [5, 1, 0, 0])
        self.assertEqual(last(rule(1, 2, 2), vote(1, 2, 5, 0), rule(1, 2, 0)), [2])

    def test_bounds_of_votes(self):
        self.assertEqual(last(vote(1, 2, 0, 0)), [0])
        self.assertEqual(last(vote(1, 2, 1000, 1000)), [0])
        self.assertEqual(last(rule(1, 2, 1), vote(1, 2, 0, 1000), least()), [1000, 1, 0, 0])
        self.assertEqual(last(rule(1, 2, 2), vote(1, 2, 1000, 0), least()), [1000, 1, 0, 1])
        for pro, contra in ((1001, 0), (0, 1001), (1001, 1001), (TOP, 0), (0, TOP), (1000, 1001), (1001, 1000)):
            self.assertEqual(last(vote(1, 2, pro, contra)), [-1])

    def test_no_pair(self):
        for i, j in NO_PAIRS:
            self.assertEqual(last(records(3), vote(i, j, 1, 1)), [-3])

    def test_one_and_n_are_records(self):
        for n in range(2, 8):
            self.assertEqual(last(records(n), vote(1, n, 1, 0)), [0])
            self.assertEqual(last(records(n), vote(n, 1, 1, 0)), [0])
            self.assertEqual(last(records(n), vote(n, n, 1, 0)), [-3])
            self.assertEqual(last(records(n), vote(n, n + 1, 1, 0)), [-3])

    def test_no_pair_is_told_first(self):
        for i, j in ((1, 1), (0, 2), (2, 0), (1, 3), (TOP, 1)):
            for pro, contra in ((1001, 0), (0, 1001), (TOP, TOP)):
                self.assertEqual(last(vote(i, j, pro, contra)), [-3])

    def test_a_refusal_leaves_all_as_it_was(self):
        laid = ask(*LAID, *LOOK, *votes_and_rules(3))
        for call, number in ((vote(1, 2, 1001, 7), -1), (vote(3, 1, 7, 1001), -1), (vote(2, 2, 7, 7), -3),
                             (vote(0, 1, 7, 7), -3), (vote(3, 4, 7, 7), -3)):
            told = ask(*LAID, call, *LOOK, *votes_and_rules(3))
            self.assertEqual(told.pop(len(LAID)), [number])
            self.assertEqual(told, laid)
