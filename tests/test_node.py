"""A node by itself: what was lost there, in which order it reaches others, and which claims it knows."""

import unittest

from nodenames.claim import Claim
from nodenames.letter import Letter
from nodenames.node import Node


class Losses(unittest.TestCase):
    def test_each_is_kept_once_in_the_order_of_losing(self):
        node = Node(2, 3)
        for name in (5, 3, 4):
            node.make_claim(7, name)
        node.make_claim(8, 6)
        node.cease_to_reach(3)
        self.assertEqual(node.receive(Letter(1, 2, [Claim(1, 1, 1, 3, False)], 1)), 1)
        elder = [Claim(0, 1, 1, 5, False), Claim(1, 3, 1, 4, False), Claim(2, 1, 1, 6, False)]
        self.assertEqual(node.receive(Letter(1, 2, elder, 2)), 2)
        node.begin_to_reach(3)
        self.assertEqual(node.look_through_own(), 1)
        self.assertEqual(node.look_through_own(), 0)
        self.assertEqual(node.losses, {7: [(3, 2), (5, 1), (4, 3)], 8: [(6, 4)]})

    def test_several_at_once_stand_by_age(self):
        node = Node(2, 2)
        for name in (9, 0, 5):
            node.make_claim(1, name)
        elder = [Claim(1, 1, 1, 5, False), Claim(2, 1, 1, 0, False)]
        node.receive(Letter(1, 2, [*elder, Claim(0, 1, 1, 9, False)], 2))
        self.assertEqual(node.losses, {1: [(9, 1), (0, 2), (5, 3)]})

    def test_giving_up_is_not_losing(self):
        node = Node(1, 2)
        node.make_claim(1, 9)
        node.give_up(1, [9])
        self.assertEqual(node.losses, {})


class Reached(unittest.TestCase):
    def test_by_number_at_first(self):
        self.assertEqual(Node(2, 4).reached, [1, 2, 3, 4])

    def test_the_one_met_last_stands_last(self):
        node = Node(2, 4)
        node.cease_to_reach(1)
        node.cease_to_reach(3)
        node.begin_to_reach(3)
        node.begin_to_reach(1)
        self.assertEqual(node.reached, [2, 4, 3, 1])

    def test_one_that_is_reached_keeps_its_place(self):
        node = Node(2, 3)
        node.begin_to_reach(1)
        self.assertEqual(node.reached, [1, 2, 3])


class Known(unittest.TestCase):
    def test_the_eldest_first(self):
        node = Node(1, 4)
        for stamp in ((2, 3), (1, 4), (2, 1), (1, 2), (2, 3)):
            node.learn(Claim(stamp[0], stamp[1], 1, 1, False))
        self.assertEqual([claim.stamp() for claim in node.known], [(1, 2), (1, 4), (2, 1), (2, 3)])


if __name__ == "__main__":
    unittest.main()
