"""begin, and the world ahead of any begin."""

import unittest

from tests.asking import ask, begin, claim, free, last, meet, part, take, tell


class Begin(unittest.TestCase):
    def test_two_to_four_nodes(self):
        self.assertEqual(ask(begin(2), begin(3), begin(4)), [[0], [0], [0]])

    def test_there_are_so_many_nodes(self):
        for n in (2, 3, 4):
            with self.subTest(n=n):
                self.assertEqual(ask(begin(n), claim(n, 1, 1), claim(n + 1, 1, 1)), [[0], [1], [-1]])

    def test_all_reach_all(self):
        for n in (2, 3, 4):
            pairs = [(a, b) for a in range(1, n + 1) for b in range(1, n + 1) if a != b]
            told = ask(begin(n), *[part(a, b) for a, b in pairs])
            self.assertEqual(told[1:], [[1]] * len(pairs))

    def test_ahead_of_any_begin_there_are_three_nodes(self):
        probes = [
            claim(3, 1, 1), claim(4, 1, 1), part(1, 2), part(1, 3), part(2, 1), part(2, 3), part(3, 1), part(3, 2),
            tell(1, 2), meet(1, 3), take(1), take(1), claim(1, 1, 1), free(2, 1, 1),
        ]
        self.assertEqual(ask(*probes), ask(begin(3), *probes)[1:])
        self.assertEqual(
            ask(*probes),
            [[1], [-1], [1], [1], [1], [1], [1], [1], [-4], [0], [3, 0], [-5], [1], [0]],
        )


class BeginAgain(unittest.TestCase):
    def test_no_claims_are_left_and_counts_are_new(self):
        told = ask(claim(1, 1, 1), claim(1, 1, 2), begin(3), claim(1, 2, 1), tell(1, 2), tell(2, 1))
        self.assertEqual(told, [[1], [2], [0], [1], [1], [0]])

    def test_counts_are_new_where_letters_raised_them(self):
        told = ask(claim(1, 1, 1), claim(1, 1, 2), tell(1, 2), take(1), begin(3), claim(2, 1, 3))
        self.assertEqual(told[-1], [1])

    def test_no_letters_are_left(self):
        self.assertEqual(last(tell(1, 2), tell(1, 3), begin(3), take(1)), [-5])

    def test_all_reach_all_again(self):
        self.assertEqual(ask(part(1, 2), begin(3), part(1, 2)), [[1], [0], [1]])

    def test_another_number_of_nodes(self):
        told = ask(begin(4), claim(4, 1, 1), begin(2), claim(3, 1, 1), begin(4), claim(4, 2, 1))
        self.assertEqual(told, [[0], [1], [0], [-1], [0], [1]])


if __name__ == "__main__":
    unittest.main()
