import unittest

from tests.helper import ask, begins, closed, easters, last_answer, rest, stop, way, week, yearly


class Begins(unittest.TestCase):
    def test_answers_nought(self):
        self.assertEqual(ask(begins()), [[0]])
        self.assertEqual(ask(begins(), begins()), [[0], [0]])

    def test_days_of_rest_are_gone(self):
        told = [week(4), yearly(4, 5), easters(0), closed(2026, 4, 7)]
        days = [rest(2026, 4, 3), rest(2026, 4, 5), rest(2026, 4, 7)]
        self.assertEqual(ask(*told, *days)[4:], [[1, 4], [1, 6], [1, 1]])
        self.assertEqual(ask(*told, begins(), *days)[4:], [[0], [0, 4], [0, 6], [0, 1]])

    def test_each_kind_is_gone_by_itself(self):
        for told in (week(6), yearly(4, 5), easters(0), closed(2026, 4, 5)):
            self.assertEqual(last_answer(told, rest(2026, 4, 5)), [1, 6])
            self.assertEqual(last_answer(told, begins(), rest(2026, 4, 5)), [0, 6])

    def test_counts_begin_again(self):
        calls = [yearly(1, 1), easters(1), closed(2026, 4, 7), way(0, 0, 0), stop((2026, 1, 1), (2026, 1, 2))]
        told = [[1], [1], [1], [0], [1]]
        self.assertEqual(ask(*calls, begins(), *calls), [*told, [0], *told])

    def test_a_stop_may_lie_before_those_told_ahead(self):
        late = stop((2999, 12, 31), (2999, 12, 31))
        early = stop((1600, 1, 1), (1600, 1, 1))
        self.assertEqual(ask(late, early, begins(), early), [[1], [-3], [0], [1]])

    def test_full_lists_are_empty_again(self):
        for told, most, first in (
            (yearly(1, 1), 40, 1), (easters(0), 40, 1), (closed(2026, 1, 1), 40, 1), (way(0, 0, 0), 8, 0),
        ):
            self.assertEqual(ask(*[told] * (most + 1), begins(), told)[-3:], [[-5], [0], [first]])


if __name__ == "__main__":
    unittest.main()
