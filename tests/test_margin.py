import unittest

from tests.helper import (
    NO_PAIRS, TOP, TORN, all_pairs, ask, last, like_like_unlike, margin, records, rule, vote,
)


class Margin(unittest.TestCase):
    def test_together_and_parted(self):
        told = ask(*like_like_unlike(3), margin(1, 2), margin(1, 3), margin(2, 3))
        self.assertEqual(told[4:], [[1, 3, 1, 5], [1, 3, 1, 4], [1, 3, 1, 4]])

    def test_two_records(self):
        self.assertEqual(last(margin(1, 2)), [1, 0, 1, 0])
        self.assertEqual(last(vote(1, 2, 7, 3), margin(1, 2)), [1, 3, 1, 7])

    def test_either_order_is_one_pair(self):
        self.assertEqual(last(vote(1, 2, 7, 3), margin(2, 1)), [1, 3, 1, 7])
        line = [records(7), vote(1, 7, 9, 2), vote(6, 7, 4, 5), vote(1, 6, 0, 3)]
        for i, j in all_pairs(7):
            self.assertEqual(last(*line, margin(i, j)), last(*line, margin(j, i)))

    def test_seven_records(self):
        line = [records(7)] + [vote(i, j, i, j) for i, j in all_pairs(7)]
        self.assertEqual(last(*line, margin(7, 1)), [1, 62, 1, 56])
        line = [records(7)] + [vote(i, j, 1000, 1000) for i, j in all_pairs(7)]
        self.assertEqual(last(*line, margin(1, 7)), [1, 21000, 1, 21000])

    def test_the_least_is_not_that_of_the_pair_alone(self):
        line = [records(3), vote(1, 2, 1, 0), vote(1, 3, 9, 0), vote(2, 3, 0, 6)]
        self.assertEqual(last(*line, margin(1, 2)), [1, 6, 1, 1])

    def test_other_rules_count(self):
        self.assertEqual(last(*like_like_unlike(3), rule(1, 3, 2), margin(1, 2)), [1, 4, 1, 5])
        self.assertEqual(last(*like_like_unlike(3), rule(1, 3, 1), margin(1, 2)), [1, 3, 1, 12])

    def test_none_together(self):
        self.assertEqual(last(*like_like_unlike(3), rule(1, 3, 2), margin(1, 3)), [0, 1, 4])
        led_to = [rule(1, 2, 1), rule(2, 3, 2)]
        self.assertEqual(last(*like_like_unlike(3), *led_to, margin(1, 3)), [0, 1, 4])
        self.assertEqual(last(vote(1, 2, 8, 1), rule(1, 2, 2), margin(1, 2)), [0, 1, 8])

    def test_none_parted(self):
        self.assertEqual(last(*like_like_unlike(3), rule(1, 2, 1), margin(1, 2)), [1, 3, 0])
        led_to = [rule(1, 2, 1), rule(2, 3, 1)]
        self.assertEqual(last(*like_like_unlike(7), *led_to, margin(3, 1)), [1, 7, 0])
        self.assertEqual(last(vote(1, 2, 1, 8), rule(1, 2, 1), margin(1, 2)), [1, 8, 0])

    def test_none_on_either_side_is_no_refusal(self):
        for i, j in all_pairs(4):
            self.assertEqual(last(*TORN, margin(i, j)), [0, 0])

    def test_a_cost_of_0_is_told_behind_1(self):
        self.assertEqual(last(records(3), rule(1, 2, 1), margin(1, 2)), [1, 0, 0])
        self.assertEqual(last(records(3), rule(1, 2, 2), margin(1, 2)), [0, 1, 0])

    def test_no_pair(self):
        for i, j in NO_PAIRS:
            self.assertEqual(last(records(3), margin(i, j)), [-3])

    def test_one_and_n_are_records(self):
        for n in range(2, 8):
            self.assertEqual(last(records(n), margin(1, n)), [1, 0, 1, 0])
            self.assertEqual(last(records(n), margin(n, n)), [-3])
            self.assertEqual(last(records(n), margin(n, n + 1)), [-3])

    def test_no_pair_where_none_keep_to_the_rules(self):
        for i, j in ((0, 1), (2, 2), (1, 5), (TOP, 3)):
            self.assertEqual(last(*TORN, margin(i, j)), [-3])
