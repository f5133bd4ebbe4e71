import unittest

from tests.helper import TOP, TORN, all_pairs, ask, chain, last, like_like_unlike, records, rule, vote


class Chain(unittest.TestCase):
    def test_who_is_joined_with_one_of_a_group_is_in_it(self):
        self.assertEqual(last(*like_like_unlike(9), chain(1)), [9, 1, 0, 0, 0])
        self.assertEqual(last(*like_like_unlike(9), chain(5)), [4, 1, 0, 0, 1])
        self.assertEqual(last(*like_like_unlike(9), chain(6)), [9, 1, 0, 1, 2])

    def test_no_votes(self):
        for n in range(2, 8):
            self.assertEqual(last(records(n), chain(0)), [0, 1] + [0] * n)
            self.assertEqual(last(records(n), chain(1)), [0, 1] + list(range(n)))

    def test_t_of_0(self):
        self.assertEqual(last(vote(1, 2, 6, 5), chain(0)), [5, 1, 0, 0])
        self.assertEqual(last(vote(1, 2, 5, 5), chain(0)), [5, 1, 0, 0])
        self.assertEqual(last(vote(1, 2, 4, 5), chain(0)), [4, 1, 0, 1])

    def test_just_t_more(self):
        told = ask(vote(1, 2, 10, 3), chain(6), chain(7), chain(8))
        self.assertEqual(told[1:], [[3, 1, 0, 0], [3, 1, 0, 0], [10, 1, 0, 1]])

    def test_high_numbers(self):
        told = ask(vote(1, 2, 1000, 0), chain(999), chain(1000), chain(1001), chain(TOP))
        self.assertEqual(told[1:], [[0, 1, 0, 0], [0, 1, 0, 0], [1000, 1, 0, 1], [1000, 1, 0, 1]])
        told = ask(vote(1, 2, 0, 1000), chain(0), chain(1), chain(TOP - 1000), chain(TOP))
        self.assertEqual(told[1:], [[0, 1, 0, 1]] * 4)

    def test_rule_1_joins(self):
        for t in (0, 1, TOP):
            self.assertEqual(last(vote(1, 2, 0, 8), rule(1, 2, 1), chain(t)), [8, 1, 0, 0])
        line = [records(4), rule(1, 4, 1), vote(3, 4, 2, 0)]
        self.assertEqual(last(*line, chain(2)), [0, 1, 0, 1, 0, 0])
        self.assertEqual(last(*line, chain(3)), [2, 1, 0, 1, 2, 0])

    def test_rule_2_does_not_count(self):
        self.assertEqual(last(vote(1, 2, 9, 1), rule(1, 2, 2), chain(8)), [1, 0, 0, 0])
        self.assertEqual(last(vote(1, 2, 9, 1), rule(1, 2, 2), chain(9)), [9, 1, 0, 1])
        self.assertEqual(last(*like_like_unlike(3), rule(1, 3, 2), chain(4)), [3, 0, 0, 0, 0])
        self.assertEqual(last(*like_like_unlike(3), rule(1, 3, 2), chain(5)), [4, 1, 0, 0, 1])

    def test_no_refusal_where_none_keep_to_the_rules(self):
        for t in (0, 1, TOP):
            self.assertEqual(last(*TORN, chain(t)), [0, 0, 0, 0, 0, 0])

    def test_chains_that_meet_late(self):
        line = [records(7), vote(1, 2, 1, 0), vote(3, 4, 1, 0), vote(5, 6, 1, 0), vote(4, 6, 1, 0), vote(2, 5, 1, 0)]
        self.assertEqual(last(*line, chain(1)), [0, 1, 0, 0, 0, 0, 0, 0, 1])
        line = [records(7), vote(6, 7, 1, 0), vote(5, 7, 1, 0), vote(3, 6, 1, 0), vote(2, 4, 1, 0)]
        self.assertEqual(last(*line, chain(1)), [0, 1, 0, 1, 2, 1, 2, 2, 2])

    def test_one_long_chain_out_of_order(self):
        for way in ((1, 7, 2, 6, 3, 5, 4), (4, 1, 5, 2, 6, 3, 7), (7, 6, 5, 4, 3, 2, 1)):
            line = [records(7)] + [vote(i, j, 1, 0) for i, j in zip(way, way[1:])]
            self.assertEqual(last(*line, chain(1)), [0, 1] + [0] * 7)

    def test_costs_of_all_pairs_in_a_chain(self):
        line = [records(7)] + [vote(i, j, 0, 1000) for i, j in all_pairs(7)]
        line += [vote(i, i + 1, 1000, 0) for i in range(1, 7)]
        self.assertEqual(last(*line, chain(1000)), [15000, 1] + [0] * 7)

    def test_votes_in_either_order(self):
        self.assertEqual(last(records(3), vote(3, 1, 6, 2), chain(4)), [2, 1, 0, 1, 0])
