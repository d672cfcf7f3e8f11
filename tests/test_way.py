import unittest

from tests.helper import TOP, ask, begins, week, way


class Way(unittest.TestCase):
    def test_its_number(self):
        self.assertEqual(ask(way(0, 0, 0), way(1, 3, 2), way(0, 0, 0)), [[0], [1], [2]])

    def test_all_that_are_ways(self):
        for counts in (0, 1):
            for rest_rule in range(4):
                for months in range(3):
                    self.assertEqual(ask(way(counts, rest_rule, months)), [[0]], (counts, rest_rule, months))

    def test_another_number_of_rest(self):
        self.assertEqual(ask(way(0, 3, 0), way(0, 4, 0)), [[0], [-1]])
        self.assertEqual(ask(way(1, 5, 0), way(1, TOP, 2)), [[-1], [-1]])

    def test_another_number_of_months(self):
        self.assertEqual(ask(way(0, 0, 2), way(0, 0, 3)), [[0], [-1]])
        self.assertEqual(ask(way(1, 0, 4), way(1, 3, TOP)), [[-1], [-1]])

    def test_both_are_others(self):
        self.assertEqual(ask(way(0, 4, 3), way(1, TOP, TOP)), [[-1], [-1]])

    def test_eight_are_taken(self):
        found = ask(*[way(number % 2, number % 4, number % 3) for number in range(8)], way(0, 0, 0))
        self.assertEqual(found, [[0], [1], [2], [3], [4], [5], [6], [7], [-5]])

    def test_the_first_refusal_told_counts(self):
        full = [way(0, 0, 0)] * 8
        self.assertEqual(ask(*full, way(0, 4, 0), way(0, 0, 3), way(0, 4, 3), way(0, 0, 0))[8:],
                         [[-1], [-1], [-1], [-5]])

    def test_a_refusal_changes_nothing(self):
        self.assertEqual(ask(way(0, 0, 0), way(0, 4, 0), way(0, 0, 3), way(0, 0, 0)), [[0], [-1], [-1], [1]])
        self.assertEqual(ask(*[way(0, 0, 0)] * 10, begins(), way(0, 0, 0))[8:], [[-5], [-5], [0], [0]])

    def test_what_follows_is_read_as_a_call(self):
        self.assertEqual(ask(way(1, 4, 2), week(6), way(1, 1, 1)), [[-1], [1], [0]])


if __name__ == "__main__":
    unittest.main()
