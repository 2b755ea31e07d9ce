"""tell and take, and how claims are learned."""

import unittest

from tests.asking import ask, claim, dies, free, last, meet, part, take, tell


class Tell(unittest.TestCase):
    def test_how_many_claims_are_known(self):
        self.assertEqual(ask(tell(1, 2), claim(1, 1, 3), tell(1, 2), claim(1, 1, 4), tell(1, 2))[0::2], [[0], [1], [2]])

    def test_those_given_up_and_those_of_others_too(self):
        told = ask(claim(1, 1, 3), free(1, 1, 3), tell(1, 2), claim(2, 1, 4), take(1), tell(2, 3))
        self.assertEqual(told[-1], [2])

    def test_one_claim_is_known_once(self):
        told = ask(claim(1, 1, 3), tell(1, 2), tell(1, 2), tell(1, 3), take(1), take(1), take(1), tell(3, 2), take(1),
                   tell(2, 1), take(1), tell(1, 2))
        self.assertEqual(told[-5:], [[1], [2, 0], [1], [1, 0], [1]])

    def test_a_letter_goes(self):
        self.assertEqual(ask(take(1), tell(3, 2), take(1), take(1)), [[-5], [0], [2, 0], [-5]])

    def test_nothing_is_learned_before_it_arrives(self):
        self.assertEqual(ask(claim(1, 1, 3), tell(1, 2), tell(2, 1), claim(2, 1, 3))[2:], [[0], [1]])


class Take(unittest.TestCase):
    def test_to_whom(self):
        told = ask(tell(1, 2), tell(1, 3), tell(2, 1), take(1), take(1), take(1), take(1))
        self.assertEqual(told[3:], [[2, 0], [3, 0], [1, 0], [-5]])

    def test_out_of_order(self):
        told = ask(tell(1, 2), tell(1, 3), tell(2, 1), take(2), take(2), take(2), take(1))
        self.assertEqual(told[3:], [[3, 0], [1, 0], [-5], [2, 0]])

    def test_what_is_in_the_one_that_is_taken(self):
        told = ask(claim(1, 1, 3), tell(1, 2), claim(1, 1, 4), tell(1, 3), take(2), tell(2, 1), tell(3, 1))
        self.assertEqual(told[4:], [[3, 0], [0], [2]])

    def test_letters_from_meetings_and_tellings_stand_in_their_order(self):
        told = ask(meet(1, 3), tell(3, 2), meet(2, 1), take(1), take(1), take(1))
        self.assertEqual(told[3:], [[3, 0], [2, 0], [1, 0]])

    def test_the_sender_learns_nothing(self):
        self.assertEqual(ask(claim(2, 1, 3), tell(1, 2), take(1), tell(1, 2)), [[1], [0], [2, 0], [0]])

    def test_the_count_is_the_letters_if_that_is_more(self):
        told = ask(claim(1, 1, 3), claim(1, 1, 4), claim(1, 1, 5), tell(1, 2), take(1), claim(2, 1, 6))
        self.assertEqual(told[-1], [4])

    def test_the_count_stays_if_the_letters_is_less(self):
        told = ask(claim(2, 1, 3), claim(2, 1, 4), claim(1, 1, 5), tell(1, 2), take(1), claim(2, 1, 6))
        self.assertEqual(told[-1], [3])

    def test_the_count_stays_if_the_letters_is_the_same(self):
        self.assertEqual(last(claim(2, 1, 3), claim(1, 1, 5), tell(1, 2), take(1), claim(2, 1, 6)), [2])

    def test_the_count_is_told_on(self):
        told = ask(claim(1, 1, 3), claim(1, 1, 4), tell(1, 2), take(1), tell(2, 3), take(1), claim(3, 1, 5))
        self.assertEqual(told[-1], [3])


class AsItWasWhenSent(unittest.TestCase):
    def test_a_later_claim_is_not_in_it(self):
        told = ask(tell(1, 2), claim(1, 1, 3), take(1), tell(2, 1), claim(2, 2, 3))
        self.assertEqual(told[2:], [[2, 0], [0], [1]])

    def test_a_later_giving_up_is_not_in_it(self):
        told = ask(claim(1, 1, 3), claim(1, 1, 4), tell(1, 2), free(1, 1, 3), dies(1, 1), take(1),
                   claim(2, 2, 3), claim(2, 2, 4))
        self.assertEqual(told[5:], [[2, 0], [0, 1, 1], [0, 1, 1]])

    def test_a_later_count_is_not_in_it(self):
        told = ask(claim(1, 1, 3), tell(1, 2), claim(1, 1, 4), claim(1, 1, 5), take(1), claim(2, 2, 6))
        self.assertEqual(told[-1], [2])

    def test_what_the_sender_learned_later_is_not_in_it(self):
        told = ask(claim(3, 1, 3), tell(3, 1), tell(1, 2), take(1), take(1), tell(2, 1), tell(1, 2))
        self.assertEqual(told[3:], [[1, 0], [2, 0], [0], [1]])

    def test_what_the_sender_lost_later_is_not_in_it(self):
        told = ask(claim(1, 1, 3), claim(2, 2, 3), tell(2, 3), tell(1, 2), take(2), take(1), claim(3, 3, 3))
        self.assertEqual(told[4:], [[2, 1], [3, 0], [0, 2, 2]])


class Losing(unittest.TestCase):
    def test_of_equal_counts_the_lesser_node_is_elder(self):
        two = [claim(1, 1, 3), claim(2, 2, 3), tell(1, 2), tell(2, 1), take(1), take(1)]
        told = ask(*two, claim(1, 5, 3), claim(2, 5, 3), free(2, 2, 3), free(1, 1, 3))
        self.assertEqual(told, [[1], [1], [1], [1], [2, 1], [1, 0], [0, 1, 1], [0, 1, 1], [0], [1]])

    def test_the_lesser_count_is_elder_on_a_greater_node_too(self):
        told = ask(claim(1, 1, 4), claim(1, 1, 3), claim(2, 2, 3), tell(1, 2), tell(2, 1), take(1), take(1),
                   claim(1, 5, 3), claim(2, 5, 3), free(1, 1, 3), free(2, 2, 3), free(1, 1, 4))
        self.assertEqual(told[5:], [[2, 0], [1, 1], [0, 2, 2], [0, 2, 2], [0], [1], [1]])

    def test_the_process_does_not_make_one_elder(self):
        self.assertEqual(last(claim(1, 9, 3), claim(2, 1, 3), tell(2, 1), take(1)), [1, 0])

    def test_two_sides_meet(self):
        apart = [part(1, 2), part(2, 1), claim(2, 2, 3), claim(1, 1, 3)]
        told = ask(*apart, meet(1, 2), meet(2, 1), take(1), take(1), claim(1, 5, 3), claim(2, 5, 3), free(2, 2, 3))
        self.assertEqual(told[4:], [[0], [0], [2, 1], [1, 0], [0, 1, 1], [0, 1, 1], [0]])

    def test_it_is_lost_once(self):
        told = ask(claim(1, 1, 3), claim(2, 2, 3), tell(1, 2), tell(1, 2), tell(1, 2), take(3), take(1), take(1))
        self.assertEqual(told[5:], [[2, 1], [2, 0], [2, 0]])

    def test_one_of_three_keeps_it(self):
        told = ask(claim(3, 3, 3), claim(2, 2, 3), claim(1, 1, 3), tell(1, 2), take(1), tell(2, 3), take(1),
                   claim(3, 4, 3))
        self.assertEqual(told[4:], [[2, 1], [2], [3, 1], [0, 1, 1]])

    def test_several_by_one_letter(self):
        told = ask(claim(1, 1, 3), claim(1, 1, 4), claim(1, 1, 5), claim(2, 2, 6), claim(2, 7, 5), claim(2, 2, 4),
                   claim(2, 8, 3), tell(1, 2), take(1), dies(2, 2), dies(2, 7), dies(2, 8))
        self.assertEqual(told[8:], [[2, 2], [1], [1], [0]])

    def test_other_names_are_not_lost(self):
        told = ask(claim(1, 1, 3), claim(2, 2, 3), claim(2, 2, 4), tell(1, 2), take(1), dies(2, 2))
        self.assertEqual(told[4:], [[2, 1], [1]])

    def test_nothing_is_lost_to_a_younger_one(self):
        told = ask(claim(1, 1, 3), claim(2, 2, 3), tell(2, 1), take(1), free(1, 1, 3))
        self.assertEqual(told[3:], [[1, 0], [1]])

    def test_nothing_is_lost_to_one_that_was_given_up(self):
        told = ask(claim(1, 1, 3), free(1, 1, 3), claim(2, 2, 3), tell(1, 2), take(1), free(2, 2, 3))
        self.assertEqual(told[4:], [[2, 0], [1]])

    def test_nothing_is_lost_to_an_unreached_one(self):
        told = ask(claim(1, 1, 3), claim(2, 2, 3), part(2, 1), tell(1, 2), take(1), tell(2, 3), claim(2, 5, 3))
        self.assertEqual(told[4:], [[2, 0], [2], [0, 2, 2]])

    def test_it_is_lost_to_a_reached_one_that_another_told_of(self):
        told = ask(claim(1, 1, 3), claim(2, 2, 3), part(1, 2), tell(1, 3), take(1), tell(3, 2), take(1))
        self.assertEqual(told[-1], [2, 1])

    def test_what_was_lost_is_told_on_as_given_up(self):
        told = ask(claim(1, 1, 3), claim(2, 2, 3), tell(1, 2), take(1), tell(2, 3), take(1), part(3, 1),
                   claim(3, 3, 3))
        self.assertEqual(told[3:], [[2, 1], [2], [3, 0], [1], [2]])

    def test_a_name_that_was_lost_may_be_claimed_when_it_is_free(self):
        told = ask(claim(1, 1, 3), claim(2, 2, 3), tell(1, 2), take(1), free(1, 1, 3), tell(1, 2), take(1),
                   claim(2, 2, 3), free(2, 2, 3))
        self.assertEqual(told[3:], [[2, 1], [1], [1], [2, 0], [2], [1]])


class GivenUpStaysSo(unittest.TestCase):
    def test_where_an_old_letter_comes_last(self):
        told = ask(claim(1, 1, 3), tell(1, 2), free(1, 1, 3), tell(1, 2), take(2), take(1), claim(2, 2, 3))
        self.assertEqual(told[4:], [[2, 0], [2, 0], [2]])

    def test_where_the_letters_come_in_order(self):
        told = ask(claim(1, 1, 3), tell(1, 2), free(1, 1, 3), tell(1, 2), take(1), claim(2, 2, 3), take(1),
                   claim(2, 2, 3))
        self.assertEqual(told[4:], [[2, 0], [0, 1, 1], [2, 0], [2]])

    def test_where_an_old_letter_comes_home(self):
        told = ask(claim(1, 1, 3), tell(1, 2), take(1), tell(2, 1), free(1, 1, 3), take(1), free(1, 1, 3),
                   claim(1, 2, 3))
        self.assertEqual(told[4:], [[1], [1, 0], [0], [2]])

    def test_where_the_process_died(self):
        told = ask(claim(1, 1, 3), tell(1, 2), take(1), tell(2, 1), dies(1, 1), take(1), dies(1, 1), claim(1, 2, 3))
        self.assertEqual(told[4:], [[1], [1, 0], [0], [2]])

    def test_where_it_was_lost(self):
        told = ask(claim(1, 1, 3), claim(2, 2, 3), tell(2, 3), take(1), tell(3, 2), tell(1, 2), take(2), take(1),
                   free(2, 2, 3))
        self.assertEqual(told[6:], [[2, 1], [2, 0], [0]])

    def test_nothing_is_lost_to_it_by_an_old_letter(self):
        told = ask(claim(1, 1, 3), tell(1, 2), free(1, 1, 3), tell(1, 2), claim(2, 2, 3), take(2), take(1),
                   free(2, 2, 3))
        self.assertEqual(told[5:], [[2, 0], [2, 0], [1]])

    def test_one_giving_up_leaves_the_other_claims(self):
        told = ask(claim(1, 1, 3), claim(1, 1, 4), tell(1, 2), take(1), free(1, 1, 3), tell(1, 2), take(1),
                   claim(2, 2, 4), claim(2, 2, 3))
        self.assertEqual(told[7:], [[0, 1, 1], [3]])


class WhereNeitherReachesTheOther(unittest.TestCase):
    def test_a_letter_arrives(self):
        told = ask(claim(1, 1, 3), tell(1, 2), part(1, 2), part(2, 1), take(1), tell(2, 3), claim(2, 2, 3))
        self.assertEqual(told[4:], [[2, 0], [1], [2]])

    def test_a_claim_of_a_third_node_is_lost_to(self):
        told = ask(claim(2, 2, 3), claim(3, 3, 3), tell(2, 1), take(1), tell(1, 3), part(1, 3), part(3, 1), take(1))
        self.assertEqual(told[-1], [3, 1])


if __name__ == "__main__":
    unittest.main()
