"""claim, free and dies."""

import unittest

from tests.asking import ask, claim, dies, forty_claims, free, last, part, take, tell


class Claims(unittest.TestCase):
    def test_each_count_is_one_more(self):
        self.assertEqual(ask(claim(1, 1, 0), claim(1, 2, 9), claim(1, 1, 5)), [[1], [2], [3]])

    def test_each_node_has_a_count_of_its_own(self):
        self.assertEqual(ask(claim(1, 1, 0), claim(1, 1, 1), claim(2, 1, 2), claim(3, 1, 3)), [[1], [2], [1], [1]])

    def test_a_held_name_answers_its_holder(self):
        self.assertEqual(ask(claim(2, 7, 3), claim(2, 8, 3), claim(2, 7, 3)), [[1], [0, 2, 7], [0, 2, 7]])

    def test_a_held_name_changes_nothing(self):
        told = ask(claim(1, 1, 3), claim(1, 2, 3), free(1, 2, 3), tell(1, 2), claim(1, 2, 4))
        self.assertEqual(told, [[1], [0, 1, 1], [0], [1], [2]])

    def test_a_holder_on_another_node(self):
        told = ask(claim(1, 6, 3), tell(1, 2), take(1), claim(2, 5, 3), claim(2, 5, 4))
        self.assertEqual(told, [[1], [1], [2, 0], [0, 1, 6], [2]])

    def test_a_name_whose_claim_no_letter_told_is_not_seen_held(self):
        self.assertEqual(ask(claim(1, 6, 3), claim(2, 5, 3)), [[1], [1]])

    def test_a_holder_that_a_third_node_told_of(self):
        told = ask(claim(1, 6, 3), tell(1, 2), take(1), tell(2, 3), take(1), claim(3, 1, 3))
        self.assertEqual(told[-3:], [[1], [3, 0], [0, 1, 6]])

    def test_a_name_that_only_an_unreached_node_holds(self):
        told = ask(claim(1, 6, 3), tell(1, 2), take(1), part(2, 1), claim(2, 5, 3), claim(2, 4, 3))
        self.assertEqual(told[-2:], [[2], [0, 2, 5]])

    def test_whom_the_other_reaches_does_not_count(self):
        told = ask(claim(1, 6, 3), tell(1, 2), take(1), part(1, 2), claim(2, 5, 3))
        self.assertEqual(told[-1], [0, 1, 6])

    def test_the_eldest_that_stands_is_the_holder(self):
        told = ask(
            claim(1, 1, 3), claim(2, 2, 3), tell(2, 3), take(1), tell(1, 3), take(1),
            claim(3, 1, 3), part(3, 1), claim(3, 1, 3), part(3, 2), claim(3, 1, 3),
        )
        self.assertEqual(told[-5:], [[0, 1, 1], [1], [0, 2, 2], [1], [2]])

    def test_one_that_is_given_up_is_not_the_holder(self):
        told = ask(claim(1, 1, 3), free(1, 1, 3), claim(2, 2, 3), tell(1, 3), tell(2, 3), take(1), take(1),
                   claim(3, 1, 3))
        self.assertEqual(told[-1], [0, 2, 2])


class FortyClaims(unittest.TestCase):
    def test_thirty_nine_leave_room_for_one(self):
        told = ask(*forty_claims(1))
        self.assertEqual(told[-1], [40])

    def test_forty_without_a_holder(self):
        told = ask(*forty_claims(1), free(1, 4, 6), claim(1, 5, 6), tell(1, 2), claim(2, 1, 6))
        self.assertEqual(told[-4:], [[1], [-6], [40], [1]])

    def test_forty_with_a_holder(self):
        self.assertEqual(last(*forty_claims(1), claim(1, 5, 6)), [0, 1, 4])

    def test_other_nodes_have_room(self):
        self.assertEqual(last(*forty_claims(1), claim(2, 5, 6)), [1])

    def test_forty_that_a_letter_brought(self):
        told = ask(*forty_claims(1), free(1, 4, 6), tell(1, 2), take(1), claim(2, 5, 7), claim(2, 5, 6))
        self.assertEqual(told[-3:], [[2, 0], [0, 1, 4], [-6]])

    def test_thirty_nine_that_a_letter_brought(self):
        calls = forty_claims(1)[:-1]
        told = ask(*calls, tell(1, 2), take(1), claim(2, 5, 9), free(2, 5, 9), claim(2, 5, 9), tell(2, 1))
        self.assertEqual(told[-6:], [[39], [2, 0], [40], [1], [-6], [40]])

    def test_more_than_forty_that_letters_brought(self):
        told = ask(claim(2, 1, 5), dies(2, 1), *forty_claims(1), tell(1, 2), take(1), tell(2, 1), part(2, 1),
                   claim(2, 1, 5))
        self.assertEqual(told[-5:], [[40], [2, 0], [41], [1], [-6]])


class Free(unittest.TestCase):
    def test_once(self):
        self.assertEqual(ask(claim(1, 1, 3), free(1, 1, 3), free(1, 1, 3)), [[1], [1], [0]])

    def test_nothing_to_free(self):
        self.assertEqual(ask(free(1, 1, 3)), [[0]])

    def test_the_name_may_be_claimed_again(self):
        told = ask(claim(1, 1, 3), free(1, 1, 3), claim(1, 2, 3), free(1, 1, 3), free(1, 2, 3))
        self.assertEqual(told, [[1], [1], [2], [0], [1]])

    def test_not_of_another_process(self):
        self.assertEqual(ask(claim(1, 1, 3), free(1, 2, 3), free(1, 1, 3))[1:], [[0], [1]])

    def test_not_on_another_name(self):
        self.assertEqual(ask(claim(1, 1, 3), free(1, 1, 4), free(1, 1, 3))[1:], [[0], [1]])

    def test_not_of_another_node(self):
        told = ask(claim(1, 1, 3), tell(1, 2), take(1), free(2, 1, 3), claim(2, 2, 3), free(1, 1, 3))
        self.assertEqual(told[3:], [[0], [0, 1, 1], [1]])

    def test_the_others_know_only_by_letter(self):
        told = ask(claim(1, 1, 3), tell(1, 2), take(1), free(1, 1, 3), claim(2, 2, 3), tell(1, 2), take(1),
                   claim(2, 2, 3))
        self.assertEqual(told[4:], [[0, 1, 1], [1], [2, 0], [2]])

    def test_the_claim_is_still_known(self):
        self.assertEqual(last(claim(1, 1, 3), free(1, 1, 3), tell(1, 2)), [1])


class Dies(unittest.TestCase):
    def test_on_all_names(self):
        told = ask(claim(1, 1, 0), claim(1, 1, 9), claim(1, 1, 5), dies(1, 1), dies(1, 1))
        self.assertEqual(told[3:], [[3], [0]])

    def test_none(self):
        self.assertEqual(ask(dies(2, 9)), [[0]])

    def test_ten_names(self):
        told = ask(*[claim(1, 9, name) for name in range(10)], dies(1, 9),
                   *[claim(1, 8, name) for name in range(10)])
        self.assertEqual(told[10:], [[10]] + [[count] for count in range(11, 21)])

    def test_not_those_given_up_before(self):
        self.assertEqual(last(claim(1, 1, 0), claim(1, 1, 9), free(1, 1, 0), dies(1, 1)), [1])

    def test_not_of_another_process(self):
        told = ask(claim(1, 1, 0), claim(1, 2, 9), dies(1, 1), claim(1, 3, 9), free(1, 2, 9))
        self.assertEqual(told[2:], [[1], [0, 1, 2], [1]])

    def test_not_of_another_node(self):
        told = ask(claim(1, 1, 0), tell(1, 2), take(1), claim(2, 1, 3), dies(2, 1), claim(2, 4, 0), dies(1, 1))
        self.assertEqual(told[3:], [[2], [1], [0, 1, 1], [1]])

    def test_the_process_may_claim_again(self):
        self.assertEqual(ask(claim(1, 1, 0), dies(1, 1), claim(1, 1, 0), dies(1, 1)), [[1], [1], [2], [1]])

    def test_the_others_know_only_by_letter(self):
        told = ask(claim(1, 1, 3), tell(1, 2), take(1), dies(1, 1), claim(2, 2, 3), tell(1, 2), take(1),
                   claim(2, 2, 3))
        self.assertEqual(told[4:], [[0, 1, 1], [1], [2, 0], [2]])


if __name__ == "__main__":
    unittest.main()
