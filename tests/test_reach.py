"""part and meet."""

import unittest

from tests.asking import ask, claim, free, last, meet, part, take, tell

# Node 2 has a claim on name 3; it knows node 1's elder one, but doesn't reach node 1.
TWO_SIDES = [claim(1, 1, 3), claim(2, 2, 3), part(2, 1), tell(1, 2), take(1)]


class Part(unittest.TestCase):
    def test_once(self):
        self.assertEqual(ask(part(1, 2), part(1, 2)), [[1], [0]])

    def test_the_other_may_still_reach(self):
        self.assertEqual(ask(part(1, 2), tell(1, 2), tell(2, 1), part(2, 1)), [[1], [-4], [0], [1]])

    def test_others_are_still_reached(self):
        self.assertEqual(ask(part(1, 2), tell(1, 3), tell(3, 2), tell(2, 3)), [[1], [0], [0], [0]])

    def test_a_node_reaches_itself_always(self):
        told = ask(claim(1, 1, 3), part(1, 2), part(1, 3), claim(1, 2, 3))
        self.assertEqual(told[-1], [0, 1, 1])

    def test_no_letter_goes(self):
        self.assertEqual(last(part(1, 2), take(1)), [-5])

    def test_nothing_is_lost(self):
        told = ask(claim(2, 2, 3), claim(1, 1, 4), part(2, 1), free(2, 2, 3))
        self.assertEqual(told[-1], [1])

    def test_claims_of_the_other_are_still_known(self):
        told = ask(claim(1, 1, 3), tell(1, 2), take(1), part(2, 1), tell(2, 3))
        self.assertEqual(told[-1], [1])


class Meet(unittest.TestCase):
    def test_one_that_is_reached(self):
        self.assertEqual(ask(meet(1, 2), meet(1, 2), part(1, 2)), [[1], [1], [1]])

    def test_one_that_was_not(self):
        self.assertEqual(ask(part(1, 2), meet(1, 2), meet(1, 2), tell(1, 2)), [[1], [0], [1], [0]])

    def test_one_parting_undoes_many_meetings(self):
        self.assertEqual(ask(meet(1, 2), meet(1, 2), part(1, 2), part(1, 2))[2:], [[1], [0]])

    def test_the_other_does_not_reach_by_it(self):
        self.assertEqual(ask(part(1, 2), part(2, 1), meet(1, 2), tell(2, 1)), [[1], [1], [0], [-4]])

    def test_a_letter_goes(self):
        told = ask(claim(1, 1, 3), meet(1, 2), take(1), take(1), claim(2, 2, 3))
        self.assertEqual(told[1:], [[1], [2, 0], [-5], [0, 1, 1]])

    def test_a_letter_goes_to_one_that_was_not_reached(self):
        told = ask(claim(1, 1, 3), part(1, 2), meet(1, 2), take(1), take(1), claim(2, 2, 3))
        self.assertEqual(told[2:], [[0], [2, 0], [-5], [0, 1, 1]])

    def test_claims_known_stand_again(self):
        told = ask(claim(1, 1, 3), tell(1, 2), take(1), part(2, 1), meet(2, 1), claim(2, 2, 3))
        self.assertEqual(told[-1], [0, 1, 1])

    def test_the_younger_is_lost(self):
        self.assertEqual(ask(*TWO_SIDES, free(2, 2, 3))[-2:], [[2, 0], [1]])
        self.assertEqual(ask(*TWO_SIDES, meet(2, 1), free(2, 2, 3), claim(2, 2, 3))[-3:], [[0], [0], [0, 1, 1]])

    def test_the_elder_is_not_lost(self):
        told = ask(claim(1, 1, 3), claim(2, 2, 3), part(1, 2), tell(2, 1), take(1), meet(1, 2), free(1, 1, 3))
        self.assertEqual(told[-3:], [[1, 0], [0], [1]])

    def test_what_the_elder_gave_up_takes_nothing(self):
        told = ask(*TWO_SIDES, free(1, 1, 3), tell(1, 2), take(1), meet(2, 1), free(2, 2, 3))
        self.assertEqual(told[-3:], [[2, 0], [0], [1]])

    def test_meeting_another_takes_nothing(self):
        self.assertEqual(last(*TWO_SIDES, part(2, 3), meet(2, 3), free(2, 2, 3)), [1])

    def test_the_other_looks_through_nothing(self):
        self.assertEqual(last(*TWO_SIDES, meet(1, 2), free(2, 2, 3)), [1])

    def test_the_letter_tells_what_was_lost_just_now(self):
        told = ask(*TWO_SIDES, meet(2, 1), take(1), free(1, 1, 3), claim(1, 4, 3))
        self.assertEqual(told[-3:], [[1, 0], [1], [2]])

    def test_what_was_lost_by_meeting_is_not_lost_again_by_letter(self):
        self.assertEqual(last(*TWO_SIDES, tell(1, 2), meet(2, 1), take(1)), [2, 0])

    def test_a_hundred_letters_leave_no_room_for_one(self):
        told = ask(part(1, 2), *[tell(2, 3)] * 100, meet(1, 2), part(1, 2), take(101), take(100))
        self.assertEqual(told[-4:], [[0], [1], [-5], [3, 0]])

    def test_ninety_nine_letters_leave_room_for_one(self):
        told = ask(*[tell(2, 3)] * 99, meet(1, 2), take(100))
        self.assertEqual(told[-2:], [[1], [2, 0]])


if __name__ == "__main__":
    unittest.main()
