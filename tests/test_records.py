import unittest

from tests.helper import LAID, LOOK, TOP, ask, last, least, nth, records, rule, sure, vote, votes_and_rules


class Records(unittest.TestCase):
    def test_two_records_at_the_beginning(self):
        self.assertEqual(ask(least(), sure()), [[0, 2, 0, 0], [0, 0]])
        self.assertEqual(last(vote(1, 3, 1, 1)), [-3])
        self.assertEqual(last(rule(1, 2, 1)), [0])

    def test_the_beginning_is_like_records_of_two(self):
        self.assertEqual(ask(*LOOK), ask(records(2), *LOOK)[1:])

    def test_answers_0_for_2_to_7(self):
        for n in range(2, 8):
            self.assertEqual(last(records(n)), [0])
            self.assertEqual(last(records(n), least())[2:], [0] * n)

    def test_refuses_all_else(self):
        for n in (0, 1, 8, 9, 100, TOP):
            self.assertEqual(last(records(n)), [-1])

    def test_the_last_record_is_n(self):
        for n in range(2, 8):
            self.assertEqual(last(records(n), vote(1, n, 1, 1)), [0])
            self.assertEqual(last(records(n), vote(1, n + 1, 1, 1)), [-3])

    def test_fewer_records_than_before(self):
        self.assertEqual(ask(records(7), records(2), vote(1, 3, 0, 0), least())[2:], [[-3], [0, 2, 0, 0]])

    def test_makes_an_end_of_votes_and_rules(self):
        for n in (2, 3, 7):
            new = ask(records(n), *LOOK)
            self.assertEqual(ask(*LAID, records(n), *LOOK)[len(LAID):], new)

    def test_makes_an_end_with_the_same_n(self):
        told = ask(*LAID, records(3), *votes_and_rules(3))[len(LAID):]
        self.assertEqual(told, ask(records(3), *votes_and_rules(3)))

    def test_makes_an_end_of_rules_that_none_keep_to(self):
        torn = [records(3), rule(1, 2, 1), rule(2, 3, 1), rule(1, 3, 2)]
        self.assertEqual(ask(*torn, least(), sure())[-2:], [[-6], [-6]])
        self.assertEqual(ask(*torn, records(3), least(), sure())[-2:], [[0, 5, 0, 0, 0], [0, 0]])
        self.assertEqual(last(*torn, records(3), rule(1, 3, 0)), [0])

    def test_a_refusal_leaves_all_as_it_was(self):
        laid = ask(*LAID, *LOOK, *votes_and_rules(3))
        for n in (0, 1, 8, TOP):
            told = ask(*LAID, records(n), *LOOK, *votes_and_rules(3))
            self.assertEqual(told.pop(len(LAID)), [-1])
            self.assertEqual(told, laid)

    def test_the_number_of_ways_to_part(self):
        for n, ways in ((2, 2), (3, 5), (4, 15), (5, 52), (6, 203), (7, 877)):
            self.assertEqual(last(records(n), least()), [0, ways] + [0] * n)
            self.assertEqual(last(records(n), nth(ways - 1)), [0] + list(range(n)))
            self.assertEqual(last(records(n), nth(ways)), [-5])
